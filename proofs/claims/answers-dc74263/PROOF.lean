import PyProof.Rows.All
import Wide.All
import OpenK.AllK
import Wide.FinOn
import PyProof.EqAt
import PyProof.EqKinds
import PyProof.TupleCall
import KE.BitLaws
import Open.SpecLaws
import KE.OsHead
import KE.OsGo
import PySem.Challenge.RW_betweenprimes_s01_answers

set_option Elab.async false
set_option linter.all false
set_option maxRecDepth 100000
/-! THE HAND LAYER, for ints, bools, texts, own classes, lists, tuples, dicts, comprehensions, walks over dicts, enumerate, zip, reversed, texts, calls, loops. Paste it whole ahead of your own text; what your proof does not reach may be deleted. -/
namespace L2
open PySem PySem.Spec PyProof.Rows

/-- a key: an int or a str -/
abbrev Key := Sum Int Str
def keyIs : Key → Value → Bool
  | .inl k, v => Value.isInt k v
  | .inr x, v => Value.isStrOf x v
def keyH (w : World) : Key → Int
  | .inl k => hashInt k
  | .inr x => hashStr w x
theorem keyIs_shape : ∀ {k : Key} {v : Value}, keyIs k v = true → (∃ i t, k = Sum.inl i ∧ v = Value.int i t) ∨ (∃ x t, k = Sum.inr x ∧ v = Value.str x t)
  | .inl i, v, h => by
    obtain ⟨t, e⟩ := Value.isInt_shape (k := i) (v := v) h
    exact .inl ⟨i, t, rfl, e⟩
  | .inr x, v, h => by
    obtain ⟨t, e⟩ := Value.isStrOf_shape (x := x) (v := v) h
    exact .inr ⟨x, t, rfl, e⟩
theorem key_ll (a b : Int) : decide ((Sum.inl a : Key) = Sum.inl b) = (a == b) := by
  by_cases e : a = b
  · subst e; simp
  · have h : ¬ (Sum.inl a : Key) = Sum.inl b := fun q => e (Sum.inl.inj q)
    rw [decide_eq_false h]
    exact (beq_eq_false_iff_ne.mpr e).symm
theorem key_rr (a b : Str) : decide ((Sum.inr a : Key) = Sum.inr b) = decide (a = b) := by
  by_cases e : a = b
  · subst e; simp
  · have h : ¬ (Sum.inr a : Key) = Sum.inr b := fun q => e (Sum.inr.inj q)
    rw [decide_eq_false h, decide_eq_false e]
theorem key_lr (a : Int) (b : Str) : decide ((Sum.inl a : Key) = Sum.inr b) = false := decide_eq_false (fun q => nomatch q)
theorem key_rl (a : Str) (b : Int) : decide ((Sum.inr a : Key) = Sum.inl b) = false := decide_eq_false (fun q => nomatch q)

def mixKind (prog : Program) (w : World) : PySem.KeyKind prog w Key where
  is := keyIs
  hash := keyH w
  inj := fun v a b ha hb => by
    rcases keyIs_shape ha with ⟨i, t, rfl, rfl⟩ | ⟨x, t, rfl, rfl⟩
    · rcases keyIs_shape hb with ⟨j, u, rfl, e⟩ | ⟨y, u, rfl, e⟩
      · injection e with e1 _; rw [e1]
      · exact nomatch e
    · rcases keyIs_shape hb with ⟨j, u, rfl, e⟩ | ⟨y, u, rfl, e⟩
      · exact nomatch e
      · injection e with e1 _; rw [e1]
  byValue := fun k v h => by
    rcases keyIs_shape h with ⟨i, t, rfl, rfl⟩ | ⟨x, t, rfl, rfl⟩ <;> rfl
  pyHash := fun hv h => by
    rcases keyIs_shape hv with ⟨i, t, rfl, rfl⟩ | ⟨x, t, rfl, rfl⟩
    · exact wpAny_pyHash_int h
    · exact wpAny_pyHash_str h
  eqBool := fun hu hv h => by
    rcases keyIs_shape hu with ⟨i, t, rfl, rfl⟩ | ⟨x, t, rfl, rfl⟩
    · rcases keyIs_shape hv with ⟨j, u, rfl, rfl⟩ | ⟨y, u, rfl, rfl⟩
      · rw [key_ll] at h; exact wpAny_eqBool_int h
      · rw [key_lr] at h; exact SeqAt.EqAt.int_str i t y u _ _ _ _ h
    · rcases keyIs_shape hv with ⟨j, u, rfl, rfl⟩ | ⟨y, u, rfl, rfl⟩
      · rw [key_rl] at h; exact SeqAt.EqAt.str_int x t j u _ _ _ _ h
      · rw [key_rr] at h; exact wpAny_eqBool_str h
  «strs» := fun k x t v h => by
    rcases keyIs_shape h with ⟨i, u, rfl, e⟩ | ⟨y, u, rfl, e⟩
    · exact nomatch e
    · injection e with e1 _
      subst e1
      cases v <;> rfl

end L2

namespace L2
open PySem PySem.Spec PyProof.Rows

/-- a value, without the heap -/
inductive V where
  | non | bl (b : Bool) | int (i : Int) | str (x : Str) | byt (b : Array UInt8) | flt (b : UInt64) | ref (a : Addr) | ty (n : String)
  deriving DecidableEq

def RelV : V → Value → Prop
  | .non, u => u = Value.none
  | .bl b, u => u = Value.bool b
  | .int i, u => ∃ t, u = Value.int i t
  | .str x, u => ∃ t, u = Value.str x t
  | .byt b, u => ∃ t, u = Value.bytes b t
  | .flt b, u => ∃ t, u = Value.float b t
  | .ref a, u => u = Value.ref a
  | .ty n, u => u = Value.type n

abbrev Vals : List V → List Value → Prop := Paired RelV
theorem Vals.length {xs : List V} {us : List Value} (r : Vals xs us) : xs.length = us.length := Paired.length r
theorem Vals.get : ∀ {xs : List V} {us : List Value} {i : Nat} {x : V}, Vals xs us → xs[i]? = some x → ∃ u, us[i]? = some u ∧ RelV x u
  | _, _, _, _, .nil, e => by simp at e
  | _, _, 0, _, .cons r _, e => by simp at e; subst e; exact ⟨_, rfl, r⟩
  | _, _, i + 1, x, .cons _ t, e => by
    obtain ⟨u, h1, h2⟩ := Vals.get (i := i) (x := x) t (by simpa using e)
    exact ⟨u, by simpa using h1, h2⟩
theorem Vals.append : ∀ {xs ys : List V} {us ws : List Value}, Vals xs us → Vals ys ws → Vals (xs ++ ys) (us ++ ws)
  | _, _, _, _, .nil, s => s
  | _, _, _, _, .cons r t, s => .cons r (Vals.append t s)
theorem Vals.take : ∀ {xs : List V} {us : List Value} (n : Nat), Vals xs us → Vals (xs.take n) (us.take n)
  | _, _, 0, _ => .nil
  | _, _, _ + 1, .nil => .nil
  | _, _, n + 1, .cons r t => .cons r (Vals.take n t)
theorem Vals.drop : ∀ {xs : List V} {us : List Value} (n : Nat), Vals xs us → Vals (xs.drop n) (us.drop n)
  | _, _, 0, r => r
  | _, _, _ + 1, .nil => .nil
  | _, _, n + 1, .cons _ t => Vals.drop n t
def RelO : Option V → Option Value → Prop
  | some v, some u => RelV v u
  | none, none => True
  | _, _ => False
def KV {κ : Type} : List (κ × V) → List (κ × Value) → Prop := Paired fun (p : κ × V) (q : κ × Value) => p.1 = q.1 ∧ RelV p.2 q.2

/-- a key of a dict (00_mix): an int or a text -/
def kV : Key → V
  | .inl i => .int i
  | .inr x => .str x

/-- what stands at a tracked address -/
inductive HO where
  /-- a list -/
  | lst (xs : List V)
  /-- a tuple (never changes) -/
  | tup (xs : List V)
  /-- a dict whose keys are ints and texts; one whose keys are tuples of ints and texts (the empty one is both) -/
  | dK (kvs : List (Key × V)) | dT (kvs : List (List Key × V))
  /-- a set of ints: its members, its size -/
  | set (S : Int → Bool) (n : Nat)
  /-- an instance of the class at C, its dict at dx, its attributes -/
  | ins (C dx : Addr) (fs : List (Str × V))
  /-- the dict of the instance at x -/
  | own (x : Addr)
  /-- the dict of an exception -/
  | xd (fs : List (Str × V))
  /-- a bound method, f of x -/
  | met (f x : Addr)
  /-- a range object lo, lo + 1, .. below hi -/
  | rng (lo hi : Int)
  /-- a thing that is known to the object (the script; a dict while a loop walks it): read, never written while it is so -/
  | frz (o : Obj) (u : HO)
  /-- a code object's table -/
  | tbl (ps : Array Value)
  /-- any other thing, by what is true of its one object (a def of one's own: SetO a S n := HO.ext fun h => ..) -/
  | ext (φ : Heap → Prop)

abbrev Hp := Addr → Option HO
def upd (H : Hp) (a : Addr) (o : HO) : Hp := fun b => if b = a then some o else H b
theorem upd_same {H : Hp} {a : Addr} {o : HO} : upd H a o a = some o := by unfold upd; rw [if_pos rfl]
theorem upd_ne {H : Hp} {a b : Addr} {o : HO} (h : b ≠ a) : upd H a o b = H b := by unfold upd; rw [if_neg h]
/-- two objects of different content stand apart -/
theorem ne_of {H : Hp} {a b : Addr} {o u : HO} (h : H a = some o) (h' : H b = some u) (d : o ≠ u) : a ≠ b := by
  intro e; subst e; rw [h] at h'; exact d (Option.some.inj h')
theorem ne_of_none {H : Hp} {a b : Addr} {o : HO} (h : H a = some o) (h' : H b = none) : a ≠ b := by
  intro e; subst e; rw [h] at h'; cases h'

section
variable (P : Program) (w : World)
def ObjOk (H : Hp) (h : Heap) (a : Addr) : HO → Prop
  | .lst xs => xs.length ≤ sizeLine ∧ ∃ (its : List Value) (n : Nat), Vals xs its ∧ h.get? a = some { cls := .type "list", data := .seq its.toArray n }
  | .tup xs => xs.length ≤ sizeLine ∧ ∃ its : List Value, Vals xs its ∧ IsTup h a its.toArray
  | .dK kvs => kvs.length ≤ sizeLine ∧ (a == sysModules) = false ∧ ∃ vs, KV kvs vs ∧ h.DictOf (mixKind P w) a vs
  | .dT kvs => kvs.length ≤ sizeLine ∧ (a == sysModules) = false ∧ ∃ xs : List (List Key × Addr × Value),
      Paired (fun (p : List Key × V) (q : List Key × Addr × Value) => p.1 = q.1 ∧ H q.2.1 = some (.tup (p.1.map kV)) ∧ RelV p.2 q.2.2) kvs xs ∧
      ∃ o es ep, h.get? a = some o ∧ o.ExactDict ∧ o.data = .dict es ep ∧ es.toList = xs.map (entryOfKey (tupleKind (mixKind P w))) ∧ (xs.map (·.1)).Nodup
  | .set S n => h.SetOf (intKind P w) a S n
  | .ins C dx fs => H dx = some (.own a) ∧ fs.length ≤ 1000 ∧ dx ≠ a ∧ h.get? a = some (PySem.W.instObj C dx) ∧
      ∃ mA, h.Ns1 dx mA ∧ (∀ f, RelO (fs.lookup f) (mA f)) ∧ PySem.Within mA (fs.map (·.1))
  | .own _ => ∃ o, h.get? a = some o
  | .xd fs => ∃ mA, h.Ns1 a mA ∧ ∀ f, RelO (fs.lookup f) (mA f)
  | .rng lo hi => ∃ t u v, h.get? a = some { cls := .type "range", data := .fields #[.int lo t, .int hi u, .int 1 v] }
  | .frz o u => h.get? a = some o ∧ ObjOk H h a u
  | .tbl ps => h.get? a = some { cls := .none, data := .fields ps }
  | .met f x => h.get? a = some (PySem.W.methodObj (.ref f) (.ref x))
  | .ext φ => φ h ∧ (∃ o, h.get? a = some o) ∧ ∀ h1 h2 : Heap, φ h1 → (∀ o, h1.get? a = some o → h2.get? a = some o) → φ h2
/-- the abstract heap is held -/
def HOk (H : Hp) (h : Heap) : Prop := ∀ a o, H a = some o → ObjOk P w H h a o
end

section
variable {P : Program} {w : World} {H H' : Hp} {h h' : Heap} {a : Addr} {o : HO}
theorem ObjOk.lt (x : ObjOk P w H h a o) : a < h.objs.size := by
  cases o with
  | lst xs => obtain ⟨_, _, _, _, e⟩ := x; exact Heap.lt_size e
  | tup xs => obtain ⟨_, _, _, p⟩ := x; exact p.lt
  | dK kvs => obtain ⟨_, _, _, _, o, _, _, e, _⟩ := x; exact Heap.lt_size e
  | dT kvs => obtain ⟨_, _, _, _, o, _, _, e, _⟩ := x; exact Heap.lt_size e
  | set S n => obtain ⟨o, _, _, _, e, _⟩ := x; exact Heap.lt_size e
  | ins C dx fs => obtain ⟨_, _, _, e, _⟩ := x; exact Heap.lt_size e
  | own y => obtain ⟨_, e⟩ := x; exact Heap.lt_size e
  | xd fs => obtain ⟨_, ⟨_, _, _, e, _⟩, _⟩ := x; exact Heap.lt_size e
  | rng lo hi => obtain ⟨_, _, _, e⟩ := x; exact Heap.lt_size e
  | frz ob u => obtain ⟨e, _⟩ := x; exact Heap.lt_size e
  | tbl ps => exact Heap.lt_size (show h.get? a = some _ from x)
  | met f y => exact Heap.lt_size (show h.get? a = some _ from x)
  | ext φ => obtain ⟨_, ⟨_, e⟩, _⟩ := x; exact Heap.lt_size e
theorem Paired.mapP {α β : Type} {F G : α → β → Prop} : ∀ {l₁ : List α} {l₂ : List β}, Paired F l₁ l₂ → (∀ a b, F a b → G a b) → Paired G l₁ l₂
  | _, _, .nil, _ => .nil
  | _, _, .cons r t, f => .cons (f _ _ r) (Paired.mapP t f)
/-- what an object's description leans on: its own object, its own dict, the tuples -/
theorem ObjOk.stay (x : ObjOk P w H h a o) (k : ∀ b u, (b = a ∨ H b = some (.own a)) → h.get? b = some u → h'.get? b = some u)
    (ho : ∀ b, H b = some (.own a) → H' b = some (.own a)) (ht : ∀ b xs, H b = some (.tup xs) → H' b = some (.tup xs)) : ObjOk P w H' h' a o := by
  induction o with
  | lst xs => obtain ⟨z, its, n, r, e⟩ := x; exact ⟨z, its, n, r, k _ _ (.inl rfl) e⟩
  | tup xs => obtain ⟨z, its, r, ob, e, c⟩ := x; exact ⟨z, its, r, ob, k _ _ (.inl rfl) e, c⟩
  | dK kvs => obtain ⟨z, y, vs, r, ob, es, ep, e, c⟩ := x; exact ⟨z, y, vs, r, ob, es, ep, k _ _ (.inl rfl) e, c⟩
  | dT kvs =>
    obtain ⟨z, y, xs, r, ob, es, ep, e, c⟩ := x
    exact ⟨z, y, xs, Paired.mapP r fun p q z => ⟨z.1, ht _ _ z.2.1, z.2.2⟩, ob, es, ep, k _ _ (.inl rfl) e, c⟩
  | set S n => obtain ⟨ob, es, ep, t, e, c⟩ := x; exact ⟨ob, es, ep, t, k _ _ (.inl rfl) e, c⟩
  | ins C dx fs =>
    obtain ⟨d, z, ne, e, mA, ⟨od, es, ep, e2, c⟩, r⟩ := x
    exact ⟨ho _ d, z, ne, k _ _ (.inl rfl) e, mA, ⟨od, es, ep, k _ _ (.inr d) e2, c⟩, r⟩
  | own y => obtain ⟨ob, e⟩ := x; exact ⟨ob, k _ _ (.inl rfl) e⟩
  | xd fs => obtain ⟨mA, ⟨od, es, ep, e, c⟩, r⟩ := x; exact ⟨mA, ⟨od, es, ep, k _ _ (.inl rfl) e, c⟩, r⟩
  | rng lo hi => obtain ⟨t, u, v, e⟩ := x; exact ⟨t, u, v, k _ _ (.inl rfl) e⟩
  | frz ob u ih => obtain ⟨e, q⟩ := x; exact ⟨k _ _ (.inl rfl) e, ih q⟩
  | tbl ps =>
    have e : h.get? a = some { cls := .none, data := .fields ps } := x
    show h'.get? a = some { cls := .none, data := .fields ps }
    exact k a _ (.inl rfl) e
  | met f y =>
    have e : h.get? a = some (PySem.W.methodObj (.ref f) (.ref y)) := x
    show h'.get? a = some (PySem.W.methodObj (.ref f) (.ref y))
    exact k a _ (.inl rfl) e
  | ext φ => obtain ⟨p, ⟨o, e⟩, st⟩ := x; exact ⟨st _ _ p fun o q => k _ _ (.inl rfl) q, ⟨o, k _ _ (.inl rfl) e⟩, st⟩
theorem HOk.lt (x : HOk P w H h) (e : H a = some o) : a < h.objs.size := (x a o e).lt
theorem HOk.fresh (x : HOk P w H h) (e : h.objs.size ≤ a) : H a = none := by
  cases q : H a with
  | none => rfl
  | some u => exact absurd (Nat.lt_of_lt_of_le (x.lt q) e) (Nat.lt_irrefl _)
/-- every object of the heap is kept -/
theorem HOk.kept (x : HOk P w H h) (k : ∀ b u, h.get? b = some u → h'.get? b = some u) : HOk P w H h' := fun a o e =>
  (x a o e).stay (fun b u _ q => k b u q) (fun _ q => q) fun _ _ q => q
/-- a new object is laid and tracked -/
theorem HOk.laid (x : HOk P w H h) (k : ∀ b u, h.get? b = some u → h'.get? b = some u) (hp : h.objs.size ≤ a) (new : ObjOk P w (upd H a o) h' a o) : HOk P w (upd H a o) h' := fun b u e => by
  have hn := x.fresh hp
  by_cases hb : b = a
  · subst hb; rw [upd_same] at e; cases e; exact new
  · rw [upd_ne hb] at e
    exact (x b u e).stay (fun c v _ q => k c v q) (fun c q => by rw [upd_ne (ne_of_none q hn)]; exact q) fun c xs q => by rw [upd_ne (ne_of_none q hn)]; exact q
end

/-- what may be read as u: it is u, or a known u -/
def Rd (H : Hp) (a : Addr) (u : HO) : Prop := H a = some u ∨ ∃ o, H a = some (.frz o u)
theorem Rd.ok {P : Program} {w : World} {H : Hp} {h : Heap} {a : Addr} {u : HO} (r : Rd H a u) (x : HOk P w H h) : ObjOk P w H h a u := by
  rcases r with r | ⟨o, r⟩
  · exact x a u r
  · obtain ⟨_, q⟩ := x a _ r
    exact q
/-- what may be written -/
def Mut : Option HO → Prop
  | some (.lst _) => True
  | some (.dK _) => True
  | some (.dT _) => True
  | some (.set _ _) => True
  | some (.ins _ _ _) => True
  | some (.ext _) => True
  | _ => False
section
variable {P : Program} {w : World} {H : Hp} {h h' : Heap} {x e : Addr} {o' : HO}
/-- the object at e is changed: x itself, or the dict of the instance x -/
theorem HOk.write (ok : HOk P w H h) (mu : Mut (H x)) (he : e = x ∨ H e = some (.own x)) (k : ∀ b u, b ≠ e → h.get? b = some u → h'.get? b = some u) (heo : ∃ u, h'.get? e = some u)
    (new : ObjOk P w (upd H x o') h' x o') : HOk P w (upd H x o') h' := fun b u q => by
  have nown : ∀ c y, H c = some (.own y) → c ≠ x := fun c y r z => by subst z; rw [r] at mu; exact mu
  have ntup : ∀ c xs, H c = some (.tup xs) → c ≠ x := fun c xs r z => by subst z; rw [r] at mu; exact mu
  by_cases hb : b = x
  · subst hb; rw [upd_same] at q; cases q; exact new
  · rw [upd_ne hb] at q
    by_cases hbe : b = e
    · have q' : H b = some (.own x) := by
        rcases he with z | z
        · exact absurd (hbe.trans z) hb
        · rw [hbe]; exact z
      rw [q] at q'; cases q'
      obtain ⟨v, hv⟩ := heo
      exact ⟨v, by rw [hbe]; exact hv⟩
    · refine (ok b u q).stay (fun c v hc r => k c v ?_ r) (fun c r => by rw [upd_ne (nown c b r)]; exact r) fun c xs r => by rw [upd_ne (ntup c xs r)]; exact r
      rcases hc with rfl | hc
      · exact hbe
      · rintro rfl
        rcases he with z | z
        · exact nown c b hc z
        · rw [hc] at z; cases z; exact hb rfl
end

/-! ### kept unless tracked; of the frames at fs (the callers') the slots may change (an exception that passes writes there); of the records at ex (iterators) nothing is said -/
structure Un (fs ex : List Addr) (H H' : Hp) (h h' : Heap) : Prop where
  keep : ∀ b o, h.get? b = some o → H b = none → b ∉ fs → b ∉ ex → h'.get? b = some o
  slot : ∀ b o, h.get? b = some o → H b = none → b ∈ fs → b ∉ ex → ∃ sl, h'.get? b = some { o with slots := sl }
  free : ∀ b o, h.get? b = some o → H b = none → b ∉ ex → H' b = none
  there : ∀ b o, h.get? b = some o → b ∉ ex → ∃ o', h'.get? b = some o'
  tups : ∀ b xs, H b = some (.tup xs) → H' b = some (.tup xs)
  frzs : ∀ b o u, H b = some (.frz o u) → H' b = some (.frz o u)
  tbls : ∀ b ps, H b = some (.tbl ps) → ∃ more, H' b = some (.tbl (ps ++ more))
section
variable {fs fs' ex ex' : List Addr} {H H1 H2 : Hp} {h h1 h2 h' : Heap} {a x e : Addr} {o : HO}
theorem Un.any (u : Un fs ex H H1 h h1) {b : Addr} {ob : Obj} (q : h.get? b = some ob) (n : H b = none) (hx : b ∉ ex) : ∃ sl, h1.get? b = some { ob with slots := sl } := by
  by_cases hb : b ∈ fs
  · exact u.slot b ob q n hb hx
  · exact ⟨ob.slots, u.keep b ob q n hb hx⟩
theorem Un.kept (k : ∀ b u, h.get? b = some u → h'.get? b = some u) : Un fs ex H H h h' :=
  ⟨fun b ob q _ _ _ => k b ob q, fun b ob q _ _ _ => ⟨ob.slots, k b ob q⟩, fun _ _ _ n _ => n, fun b ob q _ => ⟨ob, k b ob q⟩, fun _ _ q => q, fun _ _ _ q => q, fun _ ps q => ⟨#[], by rw [q]; simp⟩⟩
theorem Un.refl : Un fs ex H H h h := Un.kept fun _ _ q => q
theorem Un.laid (k : ∀ b u, h.get? b = some u → h'.get? b = some u) (hp : h.objs.size ≤ a) (hn : H a = none) : Un fs ex H (upd H a o) h h' where
  keep := fun b u q _ _ _ => k b u q
  slot := fun b u q _ _ _ => ⟨u.slots, k b u q⟩
  free := fun b u q n _ => by rw [upd_ne (Nat.ne_of_lt (Nat.lt_of_lt_of_le (Heap.lt_size q) hp))]; exact n
  there := fun b u q _ => ⟨u, k b u q⟩
  tups := fun b xs q => by rw [upd_ne (ne_of_none q hn)]; exact q
  frzs := fun b u xs q => by rw [upd_ne (ne_of_none q hn)]; exact q
  tbls := fun b ps q => ⟨#[], by rw [upd_ne (ne_of_none q hn), q]; simp⟩
theorem Un.write (mu : Mut (H x)) (he : e = x ∨ H e = some (.own x)) (k : ∀ b u, b ≠ e → h.get? b = some u → h'.get? b = some u) (heo : ∃ u, h'.get? e = some u) : Un fs ex H (upd H x o) h h' := by
  have hx : ∀ b, H b = none → b ≠ x := fun b n z => by subst z; rw [n] at mu; exact mu
  have hb : ∀ b, H b = none → b ≠ e := fun b n z => by
    subst z
    rcases he with r | r
    · exact hx b n r
    · rw [n] at r; cases r
  have hm : ∀ b u, H b = some u → ¬ Mut (some u) → b ≠ x := fun b u q nm z => by subst z; rw [q] at mu; exact nm mu
  refine ⟨fun b u q n _ _ => k b u (hb b n) q, fun b u q n _ _ => ⟨u.slots, k b u (hb b n) q⟩, fun b u q n _ => by rw [upd_ne (hx b n)]; exact n, fun b u q _ => ?_,
    fun b xs q => by rw [upd_ne (hm b _ q fun z => z)]; exact q, fun b u xs q => by rw [upd_ne (hm b _ q fun z => z)]; exact q, fun b ps q => ⟨#[], by rw [upd_ne (hm b _ q fun z => z), q]; simp⟩⟩
  by_cases hbe : b = e
  · subst hbe; exact heo
  · exact ⟨u, k b u hbe q⟩
end

/-! ### the heap without what is tracked -/
def trk (h : Heap) (H : Hp) : List Addr := (List.range h.objs.size).filter fun a => (H a).isSome
def hidT (h : Heap) (H : Hp) : Heap := PySem.W.hideAll h (trk h H)
theorem hidT_size (h : Heap) (H : Hp) : (hidT h H).objs.size = h.objs.size := PySem.W.hideAll_size _ _
theorem hidT_get {h : Heap} {H : Hp} {b : Addr} {o : Obj} (e : h.get? b = some o) (n : H b = none) : (hidT h H).get? b = some o :=
  PySem.W.hideAll_get _ e fun hm => by
    have q : (H b).isSome = true := (List.mem_filter.mp hm).2
    rw [n] at q; simp at q
theorem of_hidT {h : Heap} {H : Hp} {b : Addr} {o : Obj} (e : (hidT h H).get? b = some o) : h.get? b = some o ∧ H b = none := by
  have e' : h.get? b = some o := PySem.W.of_hideAll (trk h H) e
  refine ⟨e', ?_⟩
  cases q : H b with
  | none => rfl
  | some x =>
    have hm : b ∈ trk h H := List.mem_filter.mpr ⟨List.mem_range.mpr (Heap.lt_size e'), by simp [q]⟩
    have z : (hidT h H).get? b = none := PySem.W.hideAll_none (trk h H) hm
    rw [z] at e; cases e

/-! ### OpenK's ledger, filled with every new object but one -/
end L2

namespace L2
open PySem PySem.Spec PyProof.Rows

/-- the module's facts, over the base: the heap at the law's entry without what is tracked there -/
structure Mod (K : PySem.W.Frag) (mg : Str → Option Value) (base : Heap) : Prop where
  kin : K.In base
  glob : base.Ns mainGlobals mg
  blt : ∃ mb, base.Ns builtinsNs mb ∧ ∀ x : Str, x ≠ "__name__" → mb x = bootBuiltins x
  nolimit : base.NoLimit

/-- the context: a def's body (or a comprehension's block) running. base: fixed through the whole law; s₀, H₀: the entry; outer: the frames whose slots others may change (a def's callers); stack: all frames that run;
   ex: iterators that were made ahead of the entry and are walked here (a comprehension's); fn: the names whose cells were made at the entry (a def: all; a comprehension's block: its own); calm: not within an except suite; pn: pins that every state bears; xe: what is wanted of an exception that leaves the code -/
structure Cx where
  prog : Program
  w : World
  K : PySem.W.Frag
  mg : Str → Option Value
  base : Heap
  A : Around
  N : List Str
  s_0 : Shared
  H_0 : Hp
  env : Env
  outer : List Env
  stack : List Env
  ex : List Addr
  fn : Str → Bool
  calm : Bool
  pn : List (Addr × Obj)
  xe : Value → Shared → Prop
/-- the callers' frames -/
def frs (l : List Env) : List Addr := l.filterMap (·.frame)
abbrev Cx.fs (X : Cx) : List Addr := frs X.outer

def Vis (sc : Scope) (x : Str) : Prop := sc.names.lookup x = some .local ∨ sc.names.lookup x = some .cell ∨ sc.names.lookup x = some .free
def Loc (sc : Scope) (x : Str) : Prop := sc.names.lookup x = some .local ∨ sc.names.lookup x = some .cell
def Look (env : Env) (h : Heap) (m : Str → Option Value) (x : Str) (u : Value) : Prop :=
  (env.kindOf x = some .local ∧ m x = some u) ∨ ((env.kindOf x = some .cell ∨ env.kindOf x = some .free) ∧ ∃ c, env.cells.lookup x = some c ∧ h.IsCell c (some u))

structure Cx.Ok (X : Cx) : Prop where
  mod : Mod X.K X.mg X.base
  kind : X.env.scope.kind = .function
  glob : X.env.globals = mainGlobals
  blt : X.env.builtins = builtinsNs
  above : X.s_0.heap.objs.size ≤ X.env.locals
  inj : ∀ x y c, X.env.cells.lookup x = some c → X.env.cells.lookup y = some c → x = y
  has : ∀ x, (X.env.kindOf x = some .cell ∨ X.env.kindOf x = some .free) → ∃ c, X.env.cells.lookup x = some c
  cab : ∀ x c, X.fn x = true → X.env.cells.lookup x = some c → X.s_0.heap.objs.size ≤ c
  hd : X.calm = true → X.A.handled = none
  frames : X.A.frames = some X.stack
  stk : X.stack = X.outer ∨ (X.stack = X.env :: X.outer ∧ X.env.frame = some X.env.locals)
  exf : ∀ b ∈ X.ex, b ≠ X.env.locals ∧ ∀ x c, X.env.cells.lookup x = some c → c ≠ b
  bs : ∀ b o, X.base.get? b = some o → X.s_0.heap.get? b = some o ∧ X.H_0 b = none
  bsz : X.base.objs.size ≤ X.s_0.heap.objs.size
  noex : ∀ b o, X.base.get? b = some o → b ∉ X.ex
  exfs : ∀ b ∈ X.ex, b ∉ X.fs
  funs : X.s_0.heap.FunFrames X.base X.outer
  frf : ∀ b ∈ X.fs, X.H_0 b = none

structure Inv (X : Cx) (pins : List (Addr × Obj)) (σ : List (Option V)) (H : Hp) (s : Shared) : Prop where
  ok : X.Ok
  os : s.os = X.s_0.os
  bare : AllBare s.gens
  base : Un X.fs X.ex X.H_0 H X.s_0.heap s.heap
  loc : ∃ m, s.heap.Ns X.env.locals m ∧ ∀ (i : Nat) (x : Str) (v : V), X.N[i]? = some x → σ[i]? = some (some v) → Vis X.env.scope x → ∃ u, RelV v u ∧ Look X.env s.heap m x u
  cell : ∀ x c, X.env.cells.lookup x = some c → ∃ v, s.heap.IsCell c v
  free : H X.env.locals = none
  freeC : ∀ x c, X.env.cells.lookup x = some c → H c = none
  pin : ∀ p ∈ X.pn ++ pins, s.heap.get? p.1 = some p.2 ∧ H p.1 = none ∧ p.1 ≠ X.env.locals ∧ p.1 ∉ X.fs ∧ ∀ v, p.2.data ≠ .cell v
  hok : HOk X.prog X.w H s.heap
  len : σ.length = X.N.length

section
variable {X : Cx} {pins : List (Addr × Obj)} {σ : List (Option V)} {H H' : Hp} {s : Shared} {h' : Heap}

theorem Cx.Ok.nofr (ok : X.Ok) {b : Addr} {o : Obj} (e : X.base.get? b = some o) : b ∉ X.fs := fun hb => by
  have := (ok.funs.mem hb).1
  rw [e] at this; cases this
theorem Inv.bs (I : Inv X pins σ H s) : ∀ b o, X.base.get? b = some o → s.heap.get? b = some o ∧ H b = none := fun b o e =>
  ⟨I.base.keep b o (I.ok.bs b o e).1 (I.ok.bs b o e).2 (I.ok.nofr e) (I.ok.noex b o e), I.base.free b o (I.ok.bs b o e).1 (I.ok.bs b o e).2 (I.ok.noex b o e)⟩
theorem Inv.bk (I : Inv X pins σ H s) : ∀ b o, X.base.get? b = some o → s.heap.get? b = some o := fun b o e => (I.bs b o e).1
theorem Inv.mod (I : Inv X pins σ H s) : Mod X.K X.mg X.base := I.ok.mod
theorem Inv.kIn (I : Inv X pins σ H s) : X.K.In s.heap := I.ok.mod.kin.keeps I.bk
theorem Inv.lt (I : Inv X pins σ H s) : X.env.locals < s.heap.objs.size := let ⟨_, hn, _⟩ := I.loc; hn.lt
theorem Inv.sz (I : Inv X pins σ H s) : X.s_0.heap.objs.size ≤ s.heap.objs.size := Nat.le_trans I.ok.above (Nat.le_of_lt I.lt)
theorem Inv.nofs (I : Inv X pins σ H s) {a : Addr} (h : s.heap.objs.size ≤ a) : a ∉ X.fs := fun hb => by
  obtain ⟨_, o, ho, _⟩ := I.ok.funs.mem hb
  exact absurd (Nat.lt_of_lt_of_le (Heap.lt_size ho) (Nat.le_trans I.sz h)) (Nat.lt_irrefl _)
theorem Inv.cne (I : Inv X pins σ H s) : ∀ x c, X.env.cells.lookup x = some c → c ≠ X.env.locals := fun x c e z => by
  obtain ⟨v, o, ho, hd⟩ := I.cell x c e
  obtain ⟨m, ⟨o', es, ep, ho', hd', _⟩, _⟩ := I.loc
  rw [z, ho'] at ho; cases ho; rw [hd'] at hd; cases hd
theorem Inv.funs (I : Inv X pins σ H s) : s.heap.FunFrames X.base X.outer := by
  have all : ∀ (l : List Env), (∀ b ∈ frs l, b ∈ X.fs) → X.s_0.heap.FunFrames X.base l → s.heap.FunFrames X.base l := by
    intro l
    induction l with
    | nil => intro _ _; trivial
    | cons env r ih =>
      intro hs hl
      obtain ⟨hk, ⟨L, o, hf, hn, ho, hd⟩, hr⟩ := hl
      have hL : L ∈ X.fs := hs L (by unfold frs; rw [List.filterMap_cons, hf]; exact List.mem_cons_self)
      obtain ⟨sl, e⟩ := I.base.slot L o ho (I.ok.frf L hL) hL fun z => I.ok.exfs L z hL
      exact ⟨hk, ⟨L, _, hf, hn, e, hd⟩, ih (fun b hb => hs b (by unfold frs; rw [List.filterMap_cons, hf]; exact List.mem_cons_of_mem _ hb)) hr⟩
  exact all X.outer (fun _ hb => hb) I.ok.funs

/-- the frames that run, for a call -/
theorem Inv.stack (I : Inv X pins σ H s) : s.heap.FunFrames X.base X.stack := by
  rcases I.ok.stk with e | ⟨e, hf⟩
  · rw [e]; exact I.funs
  · rw [e]
    obtain ⟨m, hn, _⟩ := I.loc
    refine .cons (by rw [I.ok.kind]; decide) hf hn ?_ I.funs
    exact Heap.get?_none_of_le (Nat.le_trans I.ok.bsz I.ok.above)
theorem Inv.stkSub (I : Inv X pins σ H s) : ∀ b ∈ frs X.stack, b ∈ X.env.locals :: X.fs := fun b hb => by
  rcases I.ok.stk with e | ⟨e, hf⟩
  · rw [e] at hb; exact List.mem_cons_of_mem _ hb
  · rw [e] at hb
    unfold frs at hb
    rw [List.filterMap_cons, hf] at hb
    exact hb
theorem Inv.stkFree (I : Inv X pins σ H s) : ∀ b ∈ frs X.stack, H b = none := fun b hb => by
  rcases List.mem_cons.mp (I.stkSub b hb) with e | hb
  · rw [e]; exact I.free
  · obtain ⟨_, o, ho, _⟩ := I.ok.funs.mem hb
    exact I.base.free b o ho (I.ok.frf b hb) fun z => I.ok.exfs b z hb

/-- THE STEP: the untracked objects but the frame and the records at ch are kept (the callers' frames up to slots), the frame's map is kept, the new abstract heap is held -/
theorem Inv.step {g' : Array GenState} {t' : Nat} {d' : Drawn} {ch : List Addr} (I : Inv X pins σ H s)
    (hch : ∀ b ∈ ch, (b ∈ X.ex ∨ X.s_0.heap.objs.size ≤ b) ∧ b ≠ X.env.locals ∧ (∀ x c, X.env.cells.lookup x = some c → c ≠ b) ∧ ∀ p ∈ X.pn ++ pins, p.1 ≠ b)
    (keep : ∀ b o, b ≠ X.env.locals → b ∉ X.fs → b ∉ ch → s.heap.get? b = some o → H b = none → h'.get? b = some o)
    (slot : ∀ b o, b ≠ X.env.locals → b ∈ X.fs → b ∉ ch → s.heap.get? b = some o → H b = none → ∃ sl, h'.get? b = some { o with slots := sl }) (free : ∀ b o, b ∉ ch → s.heap.get? b = some o → H b = none → H' b = none)
    (there : ∀ b o, b ∉ ch → s.heap.get? b = some o → ∃ o', h'.get? b = some o')
    (tups : ∀ b xs, H b = some (.tup xs) → H' b = some (.tup xs)) (frzs : ∀ b o u, H b = some (.frz o u) → H' b = some (.frz o u)) (tbls : ∀ b ps, H b = some (.tbl ps) → ∃ more, H' b = some (.tbl (ps ++ more)))
    (ns : ∀ m, s.heap.Ns X.env.locals m → h'.Ns X.env.locals m) (hok : HOk X.prog X.w H' h') (hg : AllBare g') :
    Inv X pins σ H' { s with heap := h', gens := g', drawn := d', toks := t' } := by
  have neL : ∀ b o, X.s_0.heap.get? b = some o → b ≠ X.env.locals := fun b o e => Nat.ne_of_lt (Nat.lt_of_lt_of_le (Heap.lt_size e) I.ok.above)
  have neC : ∀ b o, X.s_0.heap.get? b = some o → b ∉ X.ex → b ∉ ch := fun b o e hx hb => by
    rcases (hch b hb).1 with z | z
    · exact hx z
    · exact absurd (Nat.lt_of_lt_of_le (Heap.lt_size e) z) (Nat.lt_irrefl _)
  have cellK : ∀ x c, X.env.cells.lookup x = some c → ∀ v, s.heap.IsCell c v → h'.IsCell c v := fun x c e v ⟨o, ho, hd⟩ => by
    have nch : c ∉ ch := fun z => (hch c z).2.2.1 x c e rfl
    by_cases hc : c ∈ X.fs
    · obtain ⟨sl, q⟩ := slot c o (I.cne x c e) hc nch ho (I.freeC x c e)
      exact ⟨_, q, hd⟩
    · exact ⟨o, keep c o (I.cne x c e) hc nch ho (I.freeC x c e), hd⟩
  refine ⟨I.ok, I.os, hg, ⟨fun b o e n hb hx => ?_, fun b o e n hb hx => ?_, fun b o e n hx => ?_, fun b o e hx => ?_, fun b xs e => tups b xs (I.base.tups b xs e), fun b o xs e => frzs b o xs (I.base.frzs b o xs e), fun b ps e => ?_⟩, ?_, fun x c e => ?_, ?_, fun x c e => ?_, fun p hp => ?_, hok, I.len⟩
  · exact keep b o (neL b o e) hb (neC b o e hx) (I.base.keep b o e n hb hx) (I.base.free b o e n hx)
  · obtain ⟨sl, e1⟩ := I.base.slot b o e n hb hx
    obtain ⟨sl', e2⟩ := slot b _ (neL b o e) hb (neC b o e hx) e1 (I.base.free b o e n hx)
    exact ⟨sl', e2⟩
  · obtain ⟨o', e1⟩ := I.base.there b o e hx
    exact free b o' (neC b o e hx) e1 (I.base.free b o e n hx)
  · obtain ⟨o', e1⟩ := I.base.there b o e hx
    exact there b o' (neC b o e hx) e1
  · obtain ⟨m1, e1⟩ := I.base.tbls b ps e
    obtain ⟨m2, e2⟩ := tbls b _ e1
    exact ⟨m1 ++ m2, by rw [e2, Array.append_assoc]⟩
  · obtain ⟨m, hn, hl⟩ := I.loc
    refine ⟨m, ns m hn, fun i x v e1 e2 e3 => ?_⟩
    obtain ⟨u, r, l⟩ := hl i x v e1 e2 e3
    refine ⟨u, r, ?_⟩
    rcases l with l | ⟨k, c, e, z⟩
    · exact .inl l
    · exact .inr ⟨k, c, e, cellK x c e _ z⟩
  · obtain ⟨v, z⟩ := I.cell x c e
    exact ⟨v, cellK x c e v z⟩
  · obtain ⟨m, ⟨o, _, _, ho, _⟩, _⟩ := I.loc
    exact free _ o (fun z => (hch _ z).2.1 rfl) ho I.free
  · obtain ⟨v, o, ho, hd⟩ := I.cell x c e
    exact free c o (fun z => (hch c z).2.2.1 x c e rfl) ho (I.freeC x c e)
  · obtain ⟨e, n, ne, nf, d⟩ := I.pin p hp
    have nch : p.1 ∉ ch := fun z => (hch p.1 z).2.2.2 p hp rfl
    exact ⟨keep p.1 p.2 ne nf nch e n, free p.1 p.2 nch e n, ne, nf, d⟩
/-- .. where the frame's own object is kept too -/
theorem Inv.un {t' : Nat} (I : Inv X pins σ H s) (u : Un X.fs [] H H' s.heap h') (hok : HOk X.prog X.w H' h') : Inv X pins σ H' { s with heap := h', toks := t' } := by
  obtain ⟨m, ⟨o, es, ep, ho, r⟩, _⟩ := id I.loc
  obtain ⟨sl, hL⟩ := u.any ho I.free (by simp)
  exact I.step (g' := s.gens) (d' := s.drawn) (ch := []) (fun _ z => nomatch z) (fun b o _ hb _ e n => u.keep b o e n hb (by simp)) (fun b o _ hb _ e n => u.slot b o e n hb (by simp)) (fun b o _ e n => u.free b o e n (by simp)) (fun b o _ e => u.there b o e (by simp)) u.tups u.frzs u.tbls (fun m' hm => by
    obtain ⟨o', es', ep', ho', r'⟩ := hm
    rw [ho] at ho'; cases ho'
    exact ⟨_, es', ep', hL, r'⟩) hok I.bare
/-- behind a call (or a comprehension's block): the slots of this frame may have changed too, the records at ch may have turned -/
theorem Inv.call {g' : Array GenState} {t' : Nat} {d' : Drawn} {ch : List Addr} (I : Inv X pins σ H s) (u : Un (frs X.stack) ch H H' s.heap h') (hok : HOk X.prog X.w H' h') (hg : AllBare g')
    (hch : ∀ b ∈ ch, (b ∈ X.ex ∨ X.s_0.heap.objs.size ≤ b) ∧ b ≠ X.env.locals ∧ (∀ x c, X.env.cells.lookup x = some c → c ≠ b) ∧ ∀ p ∈ X.pn ++ pins, p.1 ≠ b) :
    Inv X pins σ H' { s with heap := h', gens := g', drawn := d', toks := t' } := by
  obtain ⟨m, ⟨o, es, ep, ho, r⟩, _⟩ := id I.loc
  obtain ⟨sl, hL⟩ := u.any ho I.free fun z => (hch _ z).2.1 rfl
  exact I.step (ch := ch) hch (fun b o hL hb hc e n => u.keep b o e n (fun z => (List.mem_cons.mp (I.stkSub b z)).elim hL hb) hc) (fun b o _ _ hc e n => u.any e n hc) (fun b o hc e n => u.free b o e n hc) (fun b o hc e => u.there b o e hc) u.tups u.frzs u.tbls (fun m' hm => by
    obtain ⟨o', es', ep', ho', r'⟩ := hm
    rw [ho] at ho'; cases ho'
    exact ⟨_, es', ep', hL, r'⟩) hok hg
/-- an untracked record of ours (an iterator) has turned -/
theorem Inv.turned {t' : Nat} {it : Addr} (I : Inv X pins σ H s) (k : ∀ b o, b ≠ it → s.heap.get? b = some o → h'.get? b = some o) (hn : H it = none) (hL : it ≠ X.env.locals)
    (h1 : it ∈ X.ex ∨ X.s_0.heap.objs.size ≤ it) (h2 : ∀ x c, X.env.cells.lookup x = some c → c ≠ it) (h3 : ∀ p ∈ X.pn ++ pins, p.1 ≠ it) : Inv X pins σ H { s with heap := h', toks := t' } := by
  have nit : ∀ b u, H b = some u → b ≠ it := fun b u e z => by rw [z, hn] at e; cases e
  refine I.step (g' := s.gens) (d' := s.drawn) (ch := [it]) (fun b hb => ?_) (fun b o _ _ hc e _ => k b o (fun z => hc (by simp [z])) e) (fun b o _ _ hc e _ => ⟨o.slots, k b o (fun z => hc (by simp [z])) e⟩) (fun _ _ _ _ n => n)
    (fun b o hc e => ⟨o, k b o (fun z => hc (by simp [z])) e⟩) (fun _ _ e => e) (fun _ _ _ e => e) (fun b ps e => ⟨#[], by rw [e]; simp⟩) (fun m hm => ?_) (fun b u e => ?_) I.bare
  · have e : b = it := by simpa using hb
    subst e
    exact ⟨h1, hL, h2, h3⟩
  · obtain ⟨o, es, ep, ho, r⟩ := hm
    exact ⟨o, es, ep, k _ o (Ne.symm hL) ho, r⟩
  · refine (I.hok b u e).stay (fun c v hc q => k c v ?_ q) (fun _ q => q) fun _ _ q => q
    rcases hc with z | z
    · rw [z]; exact nit b u e
    · exact nit c _ z
theorem Inv.tok (I : Inv X pins σ H s) (t : Nat) : Inv X pins σ H { s with toks := t } := I.un (h' := s.heap) (t' := t) Un.refl I.hok
/-- all objects kept -/
theorem Inv.kept {t' : Nat} (I : Inv X pins σ H s) (k : ∀ b u, s.heap.get? b = some u → h'.get? b = some u) : Inv X pins σ H { s with heap := h', toks := t' } := I.un (Un.kept k) (I.hok.kept k)
/-- a new object laid and tracked -/
theorem Inv.laid {a : Addr} {o : HO} {t' : Nat} (I : Inv X pins σ H s) (k : ∀ b u, s.heap.get? b = some u → h'.get? b = some u) (hp : s.heap.objs.size ≤ a) (new : ObjOk X.prog X.w (upd H a o) h' a o) :
    Inv X pins σ (upd H a o) { s with heap := h', toks := t' } := I.un (Un.laid k hp (I.hok.fresh hp)) (I.hok.laid k hp new)
/-- an object written -/
theorem Inv.write {x e : Addr} {o : HO} {t' : Nat} (I : Inv X pins σ H s) (mu : Mut (H x)) (he : e = x ∨ H e = some (.own x)) (k : ∀ b u, b ≠ e → s.heap.get? b = some u → h'.get? b = some u) (heo : ∃ u, h'.get? e = some u)
    (new : ObjOk X.prog X.w (upd H x o) h' x o) : Inv X pins σ (upd H x o) { s with heap := h', toks := t' } := I.un (Un.write mu he k heo) (I.hok.write mu he k heo new)
/-- forgetting slots, pins -/
theorem Inv.weak {σ' : List (Option V)} (I : Inv X pins σ H s) (hl : σ'.length = σ.length) (w : ∀ (i : Nat) v, σ'[i]? = some (some v) → σ[i]? = some (some v)) : Inv X pins σ' H s :=
  ⟨I.ok, I.os, I.bare, I.base, let ⟨m, hn, hl'⟩ := I.loc; ⟨m, hn, fun i x v e1 e2 e3 => hl' i x v e1 (w i v e2) e3⟩, I.cell, I.free, I.freeC, I.pin, I.hok, hl.trans I.len⟩
theorem Inv.pins_of {pins' : List (Addr × Obj)} (I : Inv X pins σ H s) (h : ∀ p ∈ pins', s.heap.get? p.1 = some p.2 ∧ H p.1 = none ∧ p.1 ≠ X.env.locals ∧ p.1 ∉ X.fs ∧ ∀ v, p.2.data ≠ .cell v) : Inv X pins' σ H s :=
  ⟨I.ok, I.os, I.bare, I.base, I.loc, I.cell, I.free, I.freeC, fun p hp => (List.mem_append.mp hp).elim (fun z => I.pin p (List.mem_append_left _ z)) (h p), I.hok, I.len⟩

theorem nodup_ix {N : List Str} (hN : N.Nodup) {i j : Nat} {x : Str} (a : N[i]? = some x) (b : N[j]? = some x) : i = j := by
  obtain ⟨h1, e1⟩ := List.getElem?_eq_some_iff.mp a
  obtain ⟨h2, e2⟩ := List.getElem?_eq_some_iff.mp b
  exact (List.getElem_inj hN).mp (e1.trans e2.symm)

/-- a name is stored; what changed -/
theorem store_ok2 {M : Model} {A : Around} {E : Value → Shared → Prop} {i : Nat} {x : Str} {v : V} {u : Value} {Q : Unit → Shared → Prop} (I : Inv X pins σ H s) (hN : X.N.Nodup) (hi : X.N[i]? = some x) (hx : Loc X.env.scope x) (r : RelV v u)
    (h : ∀ s', Inv X pins (σ.set i (some v)) H s' → (∃ a, Heap.SameBut a s.heap s'.heap ∧ (a = X.env.locals ∨ X.env.cells.lookup x = some a)) → Q () s') (hf : X.fn x = true ∨ X.env.scope.names.lookup x = some .local := by first | exact .inl rfl | exact .inr rfl | assumption) : wpAny M A (storeName X.env x u) Q E s := by
  obtain ⟨m, hn, hl⟩ := id I.loc
  have hcls : (X.env.scope.kind == .class || (X.env.scope.kind == .module && X.env.locals != X.env.globals)) = false := by rw [I.ok.kind]; rfl
  have hiσ : i < σ.length := by rw [I.len]; exact (List.getElem?_eq_some_iff.mp hi).1
  have cne := I.cne
  have tracked : ∀ {a : Addr} {h' : Heap}, (∃ o, s.heap.get? a = some o ∧ H a = none) → Heap.SameBut a s.heap h' → HOk X.prog X.w H h' := fun {a h'} ha hs b ob e => by
    obtain ⟨_, _, hfree⟩ := ha
    refine (I.hok b ob e).stay (fun c w' hc q => (hs.2 c ?_).trans q) (fun _ q => q) fun _ _ q => q
    rintro rfl
    rcases hc with rfl | hc
    · rw [hfree] at e; cases e
    · rw [hfree] at hc; cases hc
  rcases hx with hk | hk
  · refine wpAny_storeName_local hk hn (fun h' hn' hs => ?_) hcls
    obtain ⟨oL, _, _, hoL, _⟩ := id hn
    refine h _ ⟨I.ok, I.os, I.bare, ⟨fun b o e n hb hx => ?_, fun b o e n hb hx => ?_, I.base.free, fun b o e hx => ?_, I.base.tups, I.base.frzs, I.base.tbls⟩, ⟨_, hn', fun j y v' e1 e2 e3 => ?_⟩, fun y c e => ?_, I.free, I.freeC, fun p hp => ?_, tracked ⟨oL, hoL, I.free⟩ hs, by simpa using I.len⟩ ⟨_, hs, .inl rfl⟩
    · exact (hs.2 b (Nat.ne_of_lt (Nat.lt_of_lt_of_le (Heap.lt_size e) I.ok.above))).trans (I.base.keep b o e n hb hx)
    · obtain ⟨sl, e1⟩ := I.base.slot b o e n hb hx
      exact ⟨sl, (hs.2 b (Nat.ne_of_lt (Nat.lt_of_lt_of_le (Heap.lt_size e) I.ok.above))).trans e1⟩
    · obtain ⟨o', e1⟩ := I.base.there b o e hx
      exact ⟨o', (hs.2 b (Nat.ne_of_lt (Nat.lt_of_lt_of_le (Heap.lt_size e) I.ok.above))).trans e1⟩
    · by_cases hj : j = i
      · subst hj
        rw [hi] at e1; cases e1
        rw [List.getElem?_set_self hiσ] at e2
        cases e2
        exact ⟨u, r, .inl ⟨hk, by simp⟩⟩
      · rw [List.getElem?_set_ne (Ne.symm hj)] at e2
        obtain ⟨u', r', q⟩ := hl j y v' e1 e2 e3
        refine ⟨u', r', ?_⟩
        rcases q with ⟨k, e⟩ | ⟨k, c, e, z⟩
        · refine .inl ⟨k, ?_⟩
          have : y ≠ x := fun e => hj (nodup_ix hN e1 (e ▸ hi))
          simp [this, e]
        · exact .inr ⟨k, c, e, z.sameBut hs (cne y c e)⟩
    · obtain ⟨w', z⟩ := I.cell y c e
      exact ⟨w', z.sameBut hs (cne y c e)⟩
    · obtain ⟨e, n, ne, nf, d⟩ := I.pin p hp
      exact ⟨(hs.2 p.1 ne).trans e, n, ne, nf, d⟩
  · have hfn : X.fn x = true := by
      rcases hf with z | z
      · exact z
      · rw [z] at hk; cases hk
    obtain ⟨c, hc⟩ := I.ok.has x (.inl hk)
    obtain ⟨w', z⟩ := I.cell x c hc
    refine wpAny_storeName_cell I.ok.kind hk hc z (fun h' hc' hs => ?_)
    obtain ⟨oc, hoc, hocd⟩ := id z
    refine h { s with heap := h' } ⟨I.ok, I.os, I.bare, ⟨fun b o e n hb hx => ?_, fun b o e n hb hx => ?_, I.base.free, fun b o e hx => ?_, I.base.tups, I.base.frzs, I.base.tbls⟩, ⟨m, hn.sameBut hs (Ne.symm (cne x c hc)), fun j y v' e1 e2 e3 => ?_⟩, fun y c' e => ?_, I.free, I.freeC, fun p hp => ?_, tracked ⟨oc, hoc, I.freeC x c hc⟩ hs, by simpa using I.len⟩ ⟨c, hs, .inr hc⟩
    · exact (hs.2 b (Nat.ne_of_lt (Nat.lt_of_lt_of_le (Heap.lt_size e) (I.ok.cab x c hfn hc)))).trans (I.base.keep b o e n hb hx)
    · obtain ⟨sl, e1⟩ := I.base.slot b o e n hb hx
      exact ⟨sl, (hs.2 b (Nat.ne_of_lt (Nat.lt_of_lt_of_le (Heap.lt_size e) (I.ok.cab x c hfn hc)))).trans e1⟩
    · obtain ⟨o', e1⟩ := I.base.there b o e hx
      exact ⟨o', (hs.2 b (Nat.ne_of_lt (Nat.lt_of_lt_of_le (Heap.lt_size e) (I.ok.cab x c hfn hc)))).trans e1⟩
    · by_cases hj : j = i
      · subst hj
        rw [hi] at e1; cases e1
        rw [List.getElem?_set_self hiσ] at e2
        cases e2
        exact ⟨u, r, .inr ⟨.inl hk, c, hc, hc'⟩⟩
      · rw [List.getElem?_set_ne (Ne.symm hj)] at e2
        obtain ⟨u', r', q⟩ := hl j y v' e1 e2 e3
        refine ⟨u', r', ?_⟩
        rcases q with q | ⟨k, c', e, z'⟩
        · exact .inl q
        · refine .inr ⟨k, c', e, z'.sameBut hs ?_⟩
          rintro rfl
          exact hj (nodup_ix hN e1 (I.ok.inj _ _ _ e hc ▸ hi))
    · by_cases hcc : c' = c
      · subst hcc; exact ⟨_, hc'⟩
      · obtain ⟨w2, z2⟩ := I.cell y c' e
        exact ⟨w2, z2.sameBut hs hcc⟩
    · obtain ⟨e, n, ne, nf, d⟩ := I.pin p hp
      refine ⟨(hs.2 p.1 ?_).trans e, n, ne, nf, d⟩
      intro q
      rw [q, hoc] at e
      have q' : oc = p.2 := Option.some.inj e
      exact d w' (by rw [← q']; exact hocd)
theorem store_ok {M : Model} {A : Around} {E : Value → Shared → Prop} {i : Nat} {x : Str} {v : V} {u : Value} {Q : Unit → Shared → Prop} (I : Inv X pins σ H s) (hN : X.N.Nodup) (hi : X.N[i]? = some x) (hx : Loc X.env.scope x) (r : RelV v u)
    (h : ∀ s', Inv X pins (σ.set i (some v)) H s' → Q () s') (hf : X.fn x = true ∨ X.env.scope.names.lookup x = some .local := by first | exact .inl rfl | exact .inr rfl | assumption) : wpAny M A (storeName X.env x u) Q E s :=
  store_ok2 I hN hi hx r (fun s' I' _ => h s' I') hf
/-- behind a call or a block, the state as it is -/
theorem Inv.call' {s' : Shared} {ch : List Addr} (I : Inv X pins σ H s) (ho : s'.os = s.os) (u : Un (frs X.stack) ch H H' s.heap s'.heap) (hok : HOk X.prog X.w H' s'.heap) (hg : AllBare s'.gens)
    (hch : ∀ b ∈ ch, (b ∈ X.ex ∨ X.s_0.heap.objs.size ≤ b) ∧ b ≠ X.env.locals ∧ (∀ x c, X.env.cells.lookup x = some c → c ≠ b) ∧ ∀ p ∈ X.pn ++ pins, p.1 ≠ b) : Inv X pins σ H' s' := by
  obtain ⟨h', g', d', t', o'⟩ := s'
  have e : o' = s.os := ho
  subst e
  exact I.call (g' := g') (t' := t') (d' := d') u hok hg hch
end

/-! ### the judgements -/
/-- an exception: its class, its own dict's address (where it has one), the abstract heap behind it -/
abbrev XK := Value → Option Addr → Hp → Prop
abbrev St := List (Option V)
abbrev VK := V → Hp → Prop
/-- an expression's reading; a test's; an argument list's -/
abbrev TE := St → Hp → VK → Prop
abbrev TT := St → Hp → (Bool → Hp → Prop) → Prop
abbrev TA := St → Hp → (List V → Hp → Prop) → Prop
/-- what is wanted behind a statement -/
structure Ends where
  nx : St → Hp → Prop
  rt : VK
  bk : St → Hp → Prop := fun _ _ => False
  ct : St → Hp → Prop := fun _ _ => False
abbrev TS := Ends → St → Hp → Prop

def EP (X : Cx) (pins : List (Addr × Obj)) (σ : St) (Q : VK) (u : Value) (s' : Shared) : Prop := ∃ v H', Inv X pins σ H' s' ∧ RelV v u ∧ Q v H'
def TP (X : Cx) (pins : List (Addr × Obj)) (σ : St) (Q : Bool → Hp → Prop) (b : Bool) (s' : Shared) : Prop := ∃ H', Inv X pins σ H' s' ∧ Q b H'
def AP (X : Cx) (pins : List (Addr × Obj)) (σ : St) (Q : List V → Hp → Prop) (us : List Value) (s' : Shared) : Prop := ∃ vs H', Inv X pins σ H' s' ∧ Vals vs us ∧ Q vs H'
def SP (X : Cx) (pins : List (Addr × Obj)) (D : Ends) (f : Flow) (s' : Shared) : Prop :=
  match f with
  | .next => ∃ σ' H', Inv X pins σ' H' s' ∧ D.nx σ' H'
  | .brk => ∃ σ' H', Inv X pins σ' H' s' ∧ D.bk σ' H'
  | .cont => ∃ σ' H', Inv X pins σ' H' s' ∧ D.ct σ' H'
  | .ret u => ∃ v σ' H', Inv X pins σ' H' s' ∧ RelV v u ∧ D.rt v H'

def PE (X : Cx) (e : Expr) (t : TE) : Prop :=
  ∀ (pins : List (Addr × Obj)) (s : Shared) (σ : St) (H : Hp) (Q : VK), Inv X pins σ H s → t σ H Q → wpAny (model X.prog X.w) X.A (eval e X.env) (EP X pins σ Q) X.xe s
def PT (X : Cx) (e : Expr) (t : TT) : Prop :=
  ∀ (pins : List (Addr × Obj)) (s : Shared) (σ : St) (H : Hp) (Q : Bool → Hp → Prop), Inv X pins σ H s → t σ H Q → wpAny (model X.prog X.w) X.A (isTrue e X.env (eval e X.env)) (TP X pins σ Q) X.xe s
/-- a test whatever its 'whole' is (and, or) -/
def PW (X : Cx) (e : Expr) (t : TT) : Prop :=
  ∀ (whole : Sem Value) (pins : List (Addr × Obj)) (s : Shared) (σ : St) (H : Hp) (Q : Bool → Hp → Prop), Inv X pins σ H s → t σ H Q → wpAny (model X.prog X.w) X.A (isTrue e X.env whole) (TP X pins σ Q) X.xe s
theorem PW.pt {X : Cx} {e : Expr} {t : TT} (h : PW X e t) : PT X e t := h _
/-- an argument list (no star), from the left -/
def PA (X : Cx) (es : List Expr) (t : TA) : Prop :=
  ∀ (pos : Pos) (pins : List (Addr × Obj)) (s : Shared) (σ : St) (H : Hp) (Q : List V → Hp → Prop), Inv X pins σ H s → t σ H Q → wpAny (model X.prog X.w) X.A (spliced (backTo pos (starEach es X.env))) (AP X pins σ Q) X.xe s
def PS (X : Cx) (st : Stmt) (t : TS) : Prop :=
  ∀ (pins : List (Addr × Obj)) (s : Shared) (σ : St) (H : Hp) (D : Ends), Inv X pins σ H s → t D σ H → wpAny (model X.prog X.w) X.A (exec st X.env) (SP X pins D) X.xe s
def PSs (X : Cx) (st : List Stmt) (t : TS) : Prop :=
  ∀ (pins : List (Addr × Obj)) (s : Shared) (σ : St) (H : Hp) (D : Ends), Inv X pins σ H s → t D σ H → wpAny (model X.prog X.w) X.A (execs st X.env) (SP X pins D) X.xe s
/-- weaken the end -/
theorem thn {α : Type} {t : Sem α} {Q Q' : α → Shared → Prop} {M : Model} {A : Around} {E : Value → Shared → Prop} {s : Shared} (h : wpAny M A t Q E s) (hQ : ∀ a s, Q a s → Q' a s) : wpAny M A t Q' E s := wpAny_mono h hQ fun _ _ x => x
end L2

namespace L2
open PySem PySem.Spec PyProof.Rows
section
variable {X : Cx}

/-! ### names and constants -/
def tVar (i : Nat) : TE := fun σ H Q => ∃ v, σ[i]? = some (some v) ∧ Q v H
def tC (v : V) : TE := fun _ H Q => Q v H
theorem pe_var {i : Nat} {x : Str} {pos : Pos} (hN : X.N[i]? = some x) (hv : Vis X.env.scope x) (hd : (x == ("__debug__" : Str)) = false := by decide) (hcd : (x == ("__classdict__" : Str)) = false := by decide) : PE X (.Name x pos) (tVar i) := by
  intro pins s σ H Q I h
  obtain ⟨v, e, h⟩ := h
  obtain ⟨m, hn, hl⟩ := I.loc
  obtain ⟨u, r, l⟩ := hl i x v hN e hv
  have fin : EP X pins σ Q u s := ⟨v, H, I, r, h⟩
  rcases l with ⟨hk, hm⟩ | ⟨hk, c, hc, hcell⟩
  · exact wpAny_Name (wpAny_loadName_local I.ok.kind hk hn hm fin) hd
  · rcases hk with hk | hk
    · exact wpAny_Name (wpAny_loadName_cell I.ok.kind hk hc hcell fin) hd
    · exact wpAny_Name (wpAny_loadName_free I.ok.kind hk hc hcell fin hcd) hd
theorem pe_int {i j pos} : PE X (.Constant (.int i) j pos) (tC (.int i)) := fun _ _ _ H _ I h => wpAny_Constant_int ⟨.int i, H, I.tok _, ⟨_, rfl⟩, h⟩
theorem pe_bl {b j pos} : PE X (.Constant (.bool b) j pos) (tC (.bl b)) := fun _ _ _ H _ I h => Constant_bool ⟨.bl b, H, I, rfl, h⟩
/-- a global name of the def -/
def Gl (X : Cx) (x : Str) : Prop := X.env.kindOf x = some .globalImplicit
theorem ld_glob {E : Value → Shared → Prop} {pins : List (Addr × Obj)} {s : Shared} {σ : St} {H : Hp} {x : Str} {u : Value} {pos : Pos} {Q : Value → Shared → Prop} (I : Inv X pins σ H s) (hg : Gl X x) (hm : X.mg x = some u) (h : Q u s)
    (hd : (x == ("__debug__" : Str)) = false := by decide) : wpAny (model X.prog X.w) X.A (eval (.Name x pos) X.env) Q E s :=
  Calls.Name_function_global I.ok.kind hg (Calls.loadGlobal_global (by rw [I.ok.glob]; exact I.mod.glob.keeps I.bk) hm h) hd
theorem ld_blt {E : Value → Shared → Prop} {pins : List (Addr × Obj)} {s : Shared} {σ : St} {H : Hp} {x : Str} {u : Value} {pos : Pos} {Q : Value → Shared → Prop} (I : Inv X pins σ H s) (hg : Gl X x) (hm : X.mg x = none) (hv : bootBuiltins x = some u) (h : Q u s)
    (hn : x ≠ "__name__" := by decide) (hd : (x == ("__debug__" : Str)) = false := by decide) : wpAny (model X.prog X.w) X.A (eval (.Name x pos) X.env) Q E s := by
  obtain ⟨mb, h1, h2⟩ := I.mod.blt
  exact Calls.Name_function_global I.ok.kind hg (Calls.loadGlobal_builtin (by rw [I.ok.glob]; exact I.mod.glob.keeps I.bk) hm (by rw [I.ok.blt]; exact h1.keeps I.bk) ((h2 x hn).trans hv) h) hd
/-- a module's constant, a class, a function, as a value -/
theorem pe_glob {x : Str} {v : V} {u : Value} {pos : Pos} (hg : Gl X x) (hm : X.mg x = some u) (r : RelV v u) (hd : (x == ("__debug__" : Str)) = false := by decide) : PE X (.Name x pos) (tC v) :=
  fun _ _ _ H _ I h => ld_glob I hg hm ⟨v, H, I, r, h⟩ hd
/-! ### arithmetic -/
variable {a b : Expr} {ta tb : TE} {pos : Pos}
/-! ### comparisons -/
/-- a comparison as a value, as a test -/
def tB (t : TE) : TT := fun σ H Q => t σ H fun x H1 => ∃ c, x = .bl c ∧ Q c H1
/-- an expression whose value is a bool, as a test -/
theorem pt_val {e : Expr} {t : TE} (h : PE X e t) (he : ∀ whole, isTrue e X.env whole = (do let v ← whole; standAt e.pos; holding [v] (truthy v)) := by intro _; rfl) : PT X e (tB t) := by
  intro pins s σ H Q I hw
  refine isTrue_plain (thn (h pins s σ H _ I hw) fun v s1 ⟨x, H1, I1, r1, q1⟩ => ?_) (he _)
  obtain ⟨d, rfl, q⟩ := q1
  cases r1
  exact wpAny_truthy_bool ⟨H1, I1, q⟩

/-! ### and, or, not -/
variable {tA tB' : TT} {rest : List Expr}
def tAnd (t u : TT) : TT := fun σ H Q => t σ H fun c H1 => if c = true then u σ H1 Q else Q false H1
def tOr (t u : TT) : TT := fun σ H Q => t σ H fun c H1 => if c = true then Q true H1 else u σ H1 Q
def tNot (t : TT) : TT := fun σ H Q => t σ H fun c H1 => Q (!c) H1
theorem pw_and1 (ha : PT X a tA) : PW X (.BoolOp .And [a] pos) tA := by
  intro wh pins s σ H Q I h
  refine isTrue_and (thn (ha pins s σ H Q I h) fun c s1 e => ?_)
  cases c with
  | true => exact isTrue_and_nil e
  | false => exact e
theorem pw_or1 (ha : PT X a tA) : PW X (.BoolOp .Or [a] pos) tA := by
  intro wh pins s σ H Q I h
  refine isTrue_or (thn (ha pins s σ H Q I h) fun c s1 e => ?_)
  cases c with
  | false => exact isTrue_or_nil e
  | true => exact e
theorem pw_and (ha : PT X a tA) (hb : PW X (.BoolOp .And (b :: rest) pos) tB') : PW X (.BoolOp .And (a :: b :: rest) pos) (tAnd tA tB') := by
  intro wh pins s σ H Q I h
  refine isTrue_and (thn (ha pins s σ H _ I h) fun c s1 ⟨H1, I1, q1⟩ => ?_)
  cases c with
  | true => exact hb wh pins s1 σ H1 Q I1 q1
  | false => exact ⟨H1, I1, q1⟩
theorem pw_or (ha : PT X a tA) (hb : PW X (.BoolOp .Or (b :: rest) pos) tB') : PW X (.BoolOp .Or (a :: b :: rest) pos) (tOr tA tB') := by
  intro wh pins s σ H Q I h
  refine isTrue_or (thn (ha pins s σ H _ I h) fun c s1 ⟨H1, I1, q1⟩ => ?_)
  cases c with
  | true => exact ⟨H1, I1, q1⟩
  | false => exact hb wh pins s1 σ H1 Q I1 q1
theorem pt_not (ha : PT X a tA) : PT X (.UnaryOp .Not a pos) (tNot tA) := by
  intro pins s σ H Q I h
  exact isTrue_not (ha pins s σ H (fun c H1 => Q (!c) H1) I h)
/-- a if t else b -/
def tIf (t : TT) (ta tb : TE) : TE := fun σ H Q => t σ H fun c H1 => if c = true then ta σ H1 Q else tb σ H1 Q
theorem pe_ifExp {c : Expr} (hc : PT X c tA) (ha : PE X a ta) (hb : PE X b tb) : PE X (.IfExp c a b pos) (tIf tA ta tb) := by
  intro pins s σ H Q I h
  refine wpAny_IfExp (thn (hc pins s σ H _ I h) fun d s1 ⟨H1, I1, q1⟩ => ?_)
  cases d with
  | true => exact ha pins s1 σ H1 Q I1 q1
  | false => exact hb pins s1 σ H1 Q I1 q1
end
end L2

namespace L2
open PySem PySem.Spec PyProof.Rows

/-! ### a list, a tuple that is read: tracked, frozen, or an object of the module -/
def SqL (K : PySem.W.Frag) (H : Hp) (a : Addr) (xs : List V) : Prop :=
  Rd H a (.lst xs) ∨
    ∃ (o : Obj) (its : Array Value) (n : Nat), K.lookup a = some o ∧ o.cls = .type "list" ∧ o.dict = none ∧ o.data = .seq its n ∧ its.size ≤ sizeLine ∧ Vals xs its.toList
def SqT (K : PySem.W.Frag) (H : Hp) (a : Addr) (xs : List V) : Prop :=
  Rd H a (.tup xs) ∨
    ∃ (o : Obj) (its : Array Value) (n : Nat), K.lookup a = some o ∧ o.cls = .type "tuple" ∧ o.data = .seq its n ∧ its.size ≤ sizeLine ∧ Vals xs its.toList
def absV : Value → Option V
  | .none => some .non
  | .bool b => some (.bl b)
  | .int i _ => some (.int i)
  | .str x _ => some (.str x)
  | .bytes b _ => some (.byt b)
  | .float b _ => some (.flt b)
  | .ref a => some (.ref a)
  | .type n => some (.ty n)
  | _ => none
theorem RelV.abs {x : V} {u : Value} (r : RelV x u) : absV u = some x := by
  cases x with
  | non => cases r; rfl
  | bl _ => cases r; rfl
  | int _ => obtain ⟨t, rfl⟩ := r; rfl
  | str _ => obtain ⟨t, rfl⟩ := r; rfl
  | byt _ => obtain ⟨t, rfl⟩ := r; rfl
  | flt _ => obtain ⟨t, rfl⟩ := r; rfl
  | ref _ => cases r; rfl
  | ty _ => cases r; rfl
theorem RelV.inj {x y : V} {u : Value} (r : RelV x u) (q : RelV y u) : x = y := Option.some.inj (r.abs.symm.trans q.abs)
theorem Vals.inj : ∀ {xs ys : List V} {us : List Value}, Vals xs us → Vals ys us → xs = ys
  | _, _, _, .nil, .nil => rfl
  | _, _, _, .cons r t, .cons r' t' => by rw [r.inj r', Vals.inj t t']
section
variable {X : Cx} {pins : List (Addr × Obj)} {σ : St} {H : Hp} {s : Shared} {a : Addr} {xs ys : List V}
theorem SqL.of {K : PySem.W.Frag} (h : H a = some (.lst xs)) : SqL K H a xs := .inl (.inl h)
theorem SqT.of {K : PySem.W.Frag} (h : H a = some (.tup xs)) : SqT K H a xs := .inl (.inl h)
theorem Inv.list (I : Inv X pins σ H s) (h : SqL X.K H a xs) : ∃ its : List Value, Vals xs its ∧ PlainL s.heap a its.toArray ∧ xs.length ≤ sizeLine := by
  rcases h with h | ⟨o, its, n, hk, hc, hd, hs, hz, r⟩
  · obtain ⟨z, its, n, r, e⟩ := h.ok I.hok
    exact ⟨its, r, ⟨_, n, e, rfl, rfl, rfl⟩, z⟩
  · refine ⟨its.toList, r, ⟨o, n, I.kIn a o hk, hc, hd, by simpa using hs⟩, ?_⟩
    have e := r.length
    simp only [Array.length_toList] at e
    omega
theorem Inv.tuple (I : Inv X pins σ H s) (h : SqT X.K H a xs) : ∃ its : List Value, Vals xs its ∧ IsTup s.heap a its.toArray ∧ xs.length ≤ sizeLine := by
  rcases h with h | ⟨o, its, n, hk, hc, hs, hz, r⟩
  · obtain ⟨z, its, r, p⟩ := h.ok I.hok
    exact ⟨its, r, p, z⟩
  · refine ⟨its.toList, r, ⟨o, I.kIn a o hk, hc, n, by simpa using hs⟩, ?_⟩
    have e := r.length
    simp only [Array.length_toList] at e
    omega
theorem Inv.list_inj (I : Inv X pins σ H s) (h : SqL X.K H a xs) (h' : SqL X.K H a ys) : xs = ys := by
  obtain ⟨its, r, ⟨o, n, e, _, _, d⟩, _⟩ := I.list h
  obtain ⟨its', r', ⟨o', n', e', _, _, d'⟩, _⟩ := I.list h'
  rw [e] at e'; cases e'
  rw [d] at d'
  injection d' with d1 _
  have : its = its' := by simpa using congrArg Array.toList d1
  subst this
  exact r.inj r'
end

/-! ### another wish about exceptions -/
abbrev Cx.wish (X : Cx) (E : Value → Shared → Prop) : Cx := { X with xe := E }
/-- no exception leaves -/
abbrev Cx.nox (X : Cx) : Cx := X.wish fun _ _ => False
theorem Cx.Ok.wish {X : Cx} (ok : X.Ok) (E : Value → Shared → Prop) : (X.wish E).Ok :=
  ⟨ok.mod, ok.kind, ok.glob, ok.blt, ok.above, ok.inj, ok.has, ok.cab, ok.hd, ok.frames, ok.stk, ok.exf, ok.bs, ok.bsz, ok.noex, ok.exfs, ok.funs, ok.frf⟩
theorem Cx.Ok.unwish {X : Cx} {E : Value → Shared → Prop} (ok : (X.wish E).Ok) : X.Ok :=
  ⟨ok.mod, ok.kind, ok.glob, ok.blt, ok.above, ok.inj, ok.has, ok.cab, ok.hd, ok.frames, ok.stk, ok.exf, ok.bs, ok.bsz, ok.noex, ok.exfs, ok.funs, ok.frf⟩
section
variable {X : Cx} {pins : List (Addr × Obj)} {σ : St} {H : Hp} {s : Shared} {E : Value → Shared → Prop}
theorem Inv.wish (I : Inv X pins σ H s) (E : Value → Shared → Prop) : Inv (X.wish E) pins σ H s := ⟨I.ok.wish E, I.os, I.bare, I.base, I.loc, I.cell, I.free, I.freeC, I.pin, I.hok, I.len⟩
theorem Inv.unwish (I : Inv (X.wish E) pins σ H s) : Inv X pins σ H s := ⟨I.ok.unwish, I.os, I.bare, I.base, I.loc, I.cell, I.free, I.freeC, I.pin, I.hok, I.len⟩
theorem SP.unwish {D : Ends} {f : Flow} {s' : Shared} (h : SP (X.wish E) pins D f s') : SP X pins D f s' := by
  cases f with
  | next => obtain ⟨σ', H', I, q⟩ := h; exact ⟨σ', H', I.unwish, q⟩
  | brk => obtain ⟨σ', H', I, q⟩ := h; exact ⟨σ', H', I.unwish, q⟩
  | cont => obtain ⟨σ', H', I, q⟩ := h; exact ⟨σ', H', I.unwish, q⟩
  | ret u => obtain ⟨v, σ', H', I, r, q⟩ := h; exact ⟨v, σ', H', I.unwish, r, q⟩
theorem PSs.nox {st : List Stmt} {t : TS} (h : PSs X.nox st t) : PSs X st t := fun pins s σ H D I hw =>
  wpAny_mono (h pins s σ H D (I.wish _) hw) (fun _ _ q => q.unwish) fun _ _ z => False.elim z
end

/-! ### blocks and small statements -/
section
variable {X : Cx} {st : Stmt} {rest : List Stmt} {t u : TS} {e : Expr} {te : TE} {pos : Pos}
def tNext : TS := fun D σ H => D.nx σ H
def tSeq (t u : TS) : TS := fun D σ H => t { D with nx := u D } σ H
theorem pss_nil : PSs X [] tNext := fun _ _ σ H _ I h => wpAny_execs_nil ⟨σ, H, I, h⟩
theorem pss_cons (h1 : PS X st t) (h2 : PSs X rest u) : PSs X (st :: rest) (tSeq t u) := by
  intro pins s σ H D I h
  refine wpAny_execs_cons (thn (h1 pins s σ H { D with nx := u D } I h) fun f s1 q => ?_)
  cases f with
  | next =>
    obtain ⟨σ', H', I', q⟩ := q
    exact h2 pins s1 σ' H' D I' q
  | ret v => exact q
  | brk => exact q
  | cont => exact q
theorem pss_one (h1 : PS X st t) : PSs X [st] t := by
  intro pins s σ H D I h
  refine wpAny_execs_cons (thn (h1 pins s σ H D I h) fun f s1 q => ?_)
  cases f with
  | next => exact wpAny_execs_nil q
  | ret v => exact q
  | brk => exact q
  | cont => exact q
/-- in a def's body nothing is shown -/
theorem Inv.quiet {pins : List (Addr × Obj)} {σ : St} {H : Hp} {s : Shared} (I : Inv X pins σ H s) : interactive X.env = false := by simp [interactive, I.ok.kind]
/-- an expression whose value is dropped -/
def tDrop (te : TE) : TS := fun D σ H => te σ H fun _ H1 => D.nx σ H1
theorem ps_expr (he : PE X e te) (hs : swapsWith e none pos.line X.env = pure false := by rfl) : PS X (.Expr e pos) (tDrop te) := by
  intro pins s σ H D I h
  exact wpAny_Expr_any (thn (he pins s σ H _ I h) fun v s1 ⟨x, H1, I1, r1, q1⟩ => ⟨σ, H1, I1, q1⟩) I.quiet hs
def tRet (te : TE) : TS := fun D σ H => te σ H D.rt
theorem ps_ret (he : PE X e te) : PS X (.Return (some e) pos) (tRet te) := by
  intro pins s σ H D I h
  exact wpAny_Return_some (thn (he pins s σ H _ I h) fun v s1 ⟨x, H1, I1, r1, q1⟩ => ⟨x, σ, H1, I1, r1, q1⟩)
def tIfS (c : TT) (t u : TS) : TS := fun D σ H => c σ H fun b H1 => if b = true then t D σ H1 else u D σ H1
theorem ps_if {c : Expr} {a b : List Stmt} {tc : TT} (hc : PT X c tc) (ha : PSs X a t) (hb : PSs X b u) : PS X (.If c a b pos) (tIfS tc t u) := by
  intro pins s σ H D I h
  refine wpAny_If (thn (hc pins s σ H _ I h) fun d s1 ⟨H1, I1, q1⟩ => ?_)
  cases d with
  | true => exact ha pins s1 σ H1 D I1 q1
  | false => exact hb pins s1 σ H1 D I1 q1
end

/-! ### targets -/
abbrev TG := V → St → Hp → (St → Hp → Prop) → Prop
def PG (X : Cx) (target : Expr) (t : TG) : Prop :=
  ∀ (pins : List (Addr × Obj)) (s : Shared) (σ : St) (H : Hp) (v : V) (u : Value) (Q : St → Hp → Prop), Inv X pins σ H s → RelV v u → t v σ H Q →
    wpAny (model X.prog X.w) X.A (assign target X.env u) (fun _ s' => ∃ σ' H', Inv X pins σ' H' s' ∧ Q σ' H') X.xe s
/-- a op= b, by values -/
abbrev TIp := V → V → Hp → VK → Prop
def PIp (X : Cx) (op : Operator) (t : TIp) : Prop :=
  ∀ (pins : List (Addr × Obj)) (s : Shared) (σ : St) (H : Hp) (x y : V) (v u : Value) (Q : VK), Inv X pins σ H s → RelV x v → RelV y u → t x y H Q →
    wpAny (model X.prog X.w) X.A (inplaceOp op v u) (EP X pins σ Q) X.xe s
section
variable {X : Cx} {pos : Pos}
def gName (i : Nat) : TG := fun v σ H Q => Q (σ.set i (some v)) H
theorem pg_name {i : Nat} {x : Str} (hN : X.N.Nodup) (hi : X.N[i]? = some x) (hx : Loc X.env.scope x) (hf : X.fn x = true ∨ X.env.scope.names.lookup x = some .local := by first | exact .inl rfl | exact .inr rfl | assumption) : PG X (.Name x pos) (gName i) := by
  intro pins s σ H v u Q I r h
  exact wpAny_assign_Name (store_ok I hN hi hx r (fun s' I' => ⟨_, H, I', h⟩) hf)
/-- target = value -/
def tAsg (te : TE) (g : TG) : TS := fun D σ H => te σ H fun x H1 => g x σ H1 D.nx
/-- name = value -/
theorem ps_set {i : Nat} {x : Str} {e : Expr} {te : TE} {pos' : Pos} (hN : X.N.Nodup) (hi : X.N[i]? = some x) (hx : Loc X.env.scope x) (he : PE X e te) (hs : swapsWith e (some (.Name x pos')) pos.line X.env = pure false := by rfl) (hf : X.fn x = true ∨ X.env.scope.names.lookup x = some .local := by first | exact .inl rfl | exact .inr rfl | assumption) :
    PS X (.Assign [.Name x pos'] e pos) (tAsg te (gName i)) := by
  intro pins s σ H D I h
  refine wpAny_Assign_Name (thn (he pins s σ H _ I h) fun v s1 ⟨y, H1, I1, r1, q1⟩ => ?_) hs
  exact store_ok I1 hN hi hx r1 (fun s2 I2 => ⟨_, H1, I2, q1⟩) hf
/-- name op= e -/
def tAug (i : Nat) (te : TE) (ti : TIp) : TS := fun D σ H => ∃ x, σ[i]? = some (some x) ∧ te σ H fun y H1 => ti x y H1 fun z H2 => D.nx (σ.set i (some z)) H2
theorem ps_aug {i : Nat} {x : Str} {e : Expr} {te : TE} {op : Operator} {ti : TIp} {pos' : Pos} (hN : X.N.Nodup) (hi : X.N[i]? = some x) (hx : Loc X.env.scope x) (he : PE X e te) (ho : PIp X op ti) (hf : X.fn x = true ∨ X.env.scope.names.lookup x = some .local := by first | exact .inl rfl | exact .inr rfl | assumption) :
    PS X (.AugAssign (.Name x pos') op e pos) (tAug i te ti) := by
  intro pins s σ H D I h
  obtain ⟨v, e1, h⟩ := h
  obtain ⟨m, hn, hl⟩ := I.loc
  have vis : Vis X.env.scope x := by rcases hx with k | k; exact .inl k; exact .inr (.inl k)
  obtain ⟨u, r, l⟩ := hl i x v hi e1 vis
  refine wpAny_AugAssign_Name ?_
  have go : wpAny (model X.prog X.w) X.A (eval e X.env) (fun w s₂ => wpAny (model X.prog X.w) X.A (inplaceOp op u w) (fun r s₃ => wpAny (model X.prog X.w) X.A (storeName X.env x r) (fun _ => SP X pins D .next) X.xe s₃) X.xe s₂) X.xe s := by
    refine thn (he pins s σ H _ I h) fun w s1 ⟨y, H1, I1, r1, q1⟩ => ?_
    refine thn (ho pins s1 σ H1 v y u w _ I1 r r1 q1) fun z s2 ⟨zv, H2, I2, r2, q2⟩ => ?_
    exact store_ok I2 hN hi hx r2 (fun s3 I3 => ⟨_, H2, I3, q2⟩) hf
  rcases l with ⟨hk, hm⟩ | ⟨hk, c, hc, hcell⟩
  · exact wpAny_loadName_local I.ok.kind hk hn hm go
  · rcases hk with hk | hk
    · exact wpAny_loadName_cell I.ok.kind hk hc hcell go
    · rcases hx with k | k
      · have : X.env.scope.names.lookup x = some .free := hk
        rw [k] at this; cases this
      · have : X.env.scope.names.lookup x = some .free := hk
        rw [k] at this; cases this
/-- ints -/
def ipI (f : Int → Int → Int) : TIp := fun x y H Q => ∃ i j, x = .int i ∧ y = .int j ∧ Q (.int (f i j)) H
theorem ip_add : PIp X .Add (ipI fun i j => i + j) := by
  intro pins s σ H x y v u Q I r1 r2 h
  obtain ⟨i, j, e1, e2, q⟩ := h
  subst e1; subst e2
  obtain ⟨t, rfl⟩ := r1
  obtain ⟨t', rfl⟩ := r2
  exact iadd_int ⟨.int _, H, I.tok _, ⟨_, rfl⟩, q⟩
end

/-! ### while -/
section
variable {X : Cx} {pos : Pos}
/-- the invariant W with its measure -/
def tWhile (c : TT) (tb : TS) : TS := fun D σ H => ∃ W : Nat → St → Hp → Prop, (∃ m, W m σ H) ∧ ∀ m σ H, W m σ H →
  c σ H fun b H1 => if b = true then ∃ N : St → Hp → Prop, (∀ σ' H', N σ' H' → ∃ m', m' < m ∧ W m' σ' H') ∧ tb { D with nx := N, ct := N, bk := D.nx } σ H1 else D.nx σ H1
theorem ps_while {c : Expr} {body : List Stmt} {tc : TT} {tb : TS} (hp : PassesOwn (model X.prog X.w) X.A X.env X.xe) (hc : PT X c tc) (hb : PSs X body tb) : PS X (.While c body [] pos) (tWhile tc tb) := by
  intro pins s σ H D I h
  obtain ⟨W, ⟨m0, w0⟩, turn⟩ := h
  refine wpAny_While (codeAny_whileLoop (fun n s' => ∃ σ' H', Inv X pins σ' H' s' ∧ W n σ' H') ?_ m0 ⟨σ, H, I, w0⟩)
  rintro n s1 ⟨σ1, H1, I1, w1⟩
  refine wpAny_passesOwn hp (thn (hc pins s1 σ1 H1 _ I1 (turn n σ1 H1 w1)) fun b s2 ⟨H2, I2, q2⟩ => ?_)
  cases b with
  | true =>
    obtain ⟨N, hN, q2⟩ := q2
    rw [if_pos rfl]
    refine wpAny_passesOwn hp (thn (hb pins s2 σ1 H2 _ I2 q2) fun f s3 q3 => ?_)
    cases f with
    | next =>
      obtain ⟨σ3, H3, I3, n3⟩ := q3
      obtain ⟨m', hm, w3⟩ := hN σ3 H3 n3
      exact ⟨m', hm, σ3, H3, I3, w3⟩
    | cont =>
      obtain ⟨σ3, H3, I3, n3⟩ := q3
      obtain ⟨m', hm, w3⟩ := hN σ3 H3 n3
      exact ⟨m', hm, σ3, H3, I3, w3⟩
    | brk => exact q3
    | ret v => exact q3
  | false =>
    rw [if_neg Bool.false_ne_true]
    exact wpAny_execs_nil ⟨σ1, H2, I2, q2⟩
end

/-! ### what a loop or a comprehension walks -/
/-- at turn i: it yields x (the heap may grow), or it stops -/
structure It where
  go : Nat → Hp → Prop
  yld : Nat → Hp → V → Hp → Prop
  stop : Nat → Hp → Prop
/-- the iterator's own objects may turn: they are not the frame's, not pinned, younger than the entry (or a comprehension's own) -/
def FpOk (X : Cx) (pins : List (Addr × Obj)) (H : Hp) (b : Addr) : Prop :=
  H b = none ∧ b ≠ X.env.locals ∧ b ∉ X.fs ∧ (b ∈ X.ex ∨ X.s_0.heap.objs.size ≤ b) ∧ (∀ x c, X.env.cells.lookup x = some c → c ≠ b) ∧ ∀ p ∈ X.pn ++ pins, p.1 ≠ b
theorem Inv.fpOk {X : Cx} {pins : List (Addr × Obj)} {σ : St} {H H' : Hp} {s : Shared} {b : Addr} (I : Inv X pins σ H s) (hb : s.heap.objs.size ≤ b) (hn : H' b = none) : FpOk X pins H' b := by
  refine ⟨hn, Nat.ne_of_gt (Nat.lt_of_lt_of_le I.lt hb), I.nofs hb, .inr (Nat.le_trans I.sz hb), fun x c e z => ?_, fun p hp z => ?_⟩
  · obtain ⟨v, q⟩ := I.cell x c e
    exact absurd (Nat.lt_of_lt_of_le q.lt (by rw [z]; exact hb)) (Nat.lt_irrefl _)
  · exact absurd (Nat.lt_of_lt_of_le (Heap.lt_size (I.pin p hp).1) (by rw [z]; exact hb)) (Nat.lt_irrefl _)
structure Turn (P : Program) (w : World) (K : PySem.W.Frag) (tg : Expr) (J : It) (fp : List Addr) (it : Addr) (tn : Nat → Heap → Prop) : Prop where
  mem : it ∈ fp
  obj : ∀ i h, tn i h → ∀ b ∈ fp, ∃ o, h.get? b = some o ∧ ∀ v, o.data ≠ .cell v
  keep : ∀ i h h', tn i h → (∀ b ∈ fp, ∀ o, h.get? b = some o → h'.get? b = some o) → tn i h'
  item : ∀ (X : Cx), X.prog = P → X.w = w → X.K = K → X.calm = true → ∀ (i : Nat) (pins : List (Addr × Obj)) (s : Shared) (σ : St) (H : Hp) (E : Value → Shared → Prop), Inv X pins σ H s → (∀ b ∈ fp, FpOk X pins H b) → tn i s.heap → J.go i H →
    wpAny (model P w) X.A (pyNext (.ref it)) (fun r s1 => ∃ u, r = some u ∧
      wpAny (model P w) X.A (letOwnedTupleGo tg (.ref it) u) (fun _ s2 => ∃ x H', Inv X pins σ H' s2 ∧ RelV x u ∧ J.yld i H x H' ∧ tn (i + 1) s2.heap ∧ ∀ b ∈ fp, H' b = none) E s1) E s
  done : ∀ (X : Cx), X.prog = P → X.w = w → X.K = K → X.calm = true → ∀ (i : Nat) (pins : List (Addr × Obj)) (s : Shared) (σ : St) (H : Hp) (E : Value → Shared → Prop), Inv X pins σ H s → (∀ b ∈ fp, FpOk X pins H b) → tn i s.heap → J.stop i H →
    wpAny (model P w) X.A (pyNext (.ref it)) (fun r s1 => r = none ∧ Inv X pins σ H s1) E s
  self : ∀ (A : Around) (i : Nat) (s : Shared) (Q : Value → Shared → Prop) (E : Value → Shared → Prop), tn i s.heap → Q (.ref it) s → wpAny (model P w) A (pyIter (.ref it)) Q E s
abbrev TI := St → Hp → (It → Hp → Prop) → Prop
/-- an iterator has come -/
def PIE (X : Cx) (pins : List (Addr × Obj)) (σ : St) (tg : Expr) (R : It → Hp → Prop) (itv : Value) (s2 : Shared) : Prop :=
  ∃ (it : Addr) (fp : List Addr) (tn : Nat → Heap → Prop) (J : It) (H' : Hp), itv = .ref it ∧ Inv X pins σ H' s2 ∧ Turn X.prog X.w X.K tg J fp it tn ∧ tn 0 s2.heap ∧ (∀ b ∈ fp, FpOk X pins H' b) ∧ R J H'
def PI (X : Cx) (tg iter : Expr) (wi : TI) : Prop :=
  ∀ (pins : List (Addr × Obj)) (s : Shared) (σ : St) (H : Hp) (R : It → Hp → Prop), Inv X pins σ H s → wi σ H R →
    wpAny (model X.prog X.w) X.A (eval iter X.env) (fun v s1 => wpAny (model X.prog X.w) X.A (pyIter v) (PIE X pins σ tg R) X.xe s1) X.xe s

/-- the step ahead of the store is nothing for an iterator that keeps no tuple -/
theorem go_of {M : Model} {A : Around} {E : Value → Shared → Prop} {s : Shared} {tg : Expr} {it : Addr} {u : Value} {o : Obj} {n : String} {vs : Array Value} {Q : Unit → Shared → Prop} (ho : s.heap.get? it = some o) (hc : o.cls = .type n) (hd : o.data = .fields vs)
    (hn : ["enumerate", "zip", "dict_itemiterator", "dict_reverseitemiterator", "odict_iterator", "itertools.zip_longest", "itertools.pairwise"].contains n = false) (hQ : Q () s) : wpAny M A (letOwnedTupleGo tg (.ref it) u) Q E s := by
  unfold letOwnedTupleGo
  cases tg <;> first
    | exact wpAny_pure hQ
    | (cases u <;> first
        | exact wpAny_pure hQ
        | (refine wpAny_bind (wpAny_load ho ?_)
           rw [hc, hd]
           show wpAny M A (if (["enumerate", "zip", "dict_itemiterator", "dict_reverseitemiterator", "odict_iterator", "itertools.zip_longest", "itertools.pairwise"].contains n && vs[0]? == some (rawInt _)) = true then _ else _) Q E s
           rw [if_neg (by intro h; rw [hn, Bool.false_and] at h; cases h)]
           exact wpAny_pure hQ))

/-- the list at a, as it stands at each turn (a loop may append to it) -/
def Itl (K : PySem.W.Frag) (a : Addr) : It :=
  ⟨fun i H => ∃ xs x, SqL K H a xs ∧ xs[i]? = some x, fun i H x H' => H' = H ∧ ∀ xs, SqL K H a xs → xs[i]? = some x, fun i H => ∃ xs, SqL K H a xs ∧ xs.length ≤ i⟩
/-- lo, lo + 1, .. (n of them) -/
def Itr (lo : Int) (n : Nat) : It := ⟨fun i _ => i < n, fun i H x H' => H' = H ∧ x = .int (lo + i), fun i _ => n ≤ i⟩
theorem turn_list {P : Program} {w : World} {K : PySem.W.Frag} {tg : Expr} (a it : Addr) : Turn P w K tg (Itl K a) [it] it (fun i h => h.IsListIter it a i) where
  mem := by simp
  obj := fun i h st b hb => by
    have e : b = it := by simpa using hb
    subst e
    obtain ⟨o, e, c, d⟩ := st
    exact ⟨o, e, fun v z => by rw [d] at z; cases z⟩
  keep := fun i h h' st k => st.at fun o e => k it (by simp) o e
  item := by
    intro X hP hw hK hc i pins s σ H E I hf st hg
    subst hP hw hK
    obtain ⟨xs, x, hq, hx⟩ := hg
    obtain ⟨its, rv, p, hz⟩ := I.list hq
    obtain ⟨u, hu, ru⟩ := rv.get hx
    obtain ⟨f0, f1, f2, f3, f4, f5⟩ := hf it (by simp)
    refine wpAny_pyNext_list_item st p.isList (x := u) (by simpa using hu) fun h' st' sb => ?_
    have I1 : Inv X pins σ H { s with heap := h' } := I.turned (t' := s.toks) (fun b o hb e => (sb.2 b hb).trans e) f0 f1 f3 f4 f5
    obtain ⟨o, e, c, d⟩ := id st'
    exact ⟨u, rfl, go_of (s := { s with heap := h' }) e c d (by decide) ⟨x, H, I1, ru, ⟨rfl, fun ys hy => by rw [I.list_inj hy hq]; exact hx⟩, st', fun b hb => (hf b hb).1⟩⟩
  done := by
    intro X hP hw hK hc i pins s σ H E I hf st hg
    subst hP hw hK
    obtain ⟨xs, hq, hx⟩ := hg
    obtain ⟨its, rv, p, hz⟩ := I.list hq
    obtain ⟨f0, f1, f2, f3, f4, f5⟩ := hf it (by simp)
    have hl := rv.length
    exact wpAny_pyNext_list_end (I.ok.hd hc) st p.isList (by simp; omega) fun h' eb => ⟨rfl, I.turned (t' := s.toks) (fun b o hb e => eb b o hb e) f0 f1 f3 f4 f5⟩
  self := fun _ _ _ _ _ st h => wpAny_pyIter_listiter st h
theorem turn_range {P : Program} {w : World} {K : PySem.W.Frag} {tg : Expr} (it : Addr) (lo : Int) (n : Nat) : Turn P w K tg (Itr lo n) [it] it (fun i h => IsRangeIter h it (lo + (i : Nat) * 1) ((n : Int) - (i : Nat)) 1) where
  mem := by simp
  obj := fun i h st b hb => by
    have e : b = it := by simpa using hb
    subst e
    exact ⟨_, st, fun v z => by
      have z' : Data.fields _ = Data.cell v := z
      cases z'⟩
  keep := fun i h h' st k => k it (by simp) _ st
  item := by
    intro X hP hw hK hc i pins s σ H E I hf st hg
    subst hP hw hK
    obtain ⟨f0, f1, f2, f3, f4, f5⟩ := hf it (by simp)
    have W := Walks.range (prog := X.prog) (w := X.w) (I.ok.hd hc) it lo 1 n
    refine W.item i s _ _ hg st fun v h' tk hv st' kk => ?_
    obtain ⟨t, rfl⟩ := hv
    have I1 : Inv X pins σ H { s with heap := h', toks := tk } := I.turned (fun b o hb e => kk b o (by simpa using hb) e) f0 f1 f3 f4 f5
    refine ⟨_, rfl, go_of (s := { s with heap := h', toks := tk }) (n := "range_iterator") st' rfl rfl (by decide) ⟨.int (lo + i), H, I1, ⟨t, ?_⟩, ⟨rfl, rfl⟩, st', fun b hb => (hf b hb).1⟩⟩
    rw [Int.mul_one]
  done := by
    intro X hP hw hK hc i pins s σ H E I hf st hg
    subst hP hw hK
    obtain ⟨f0, f1, f2, f3, f4, f5⟩ := hf it (by simp)
    exact wpAny_pyNext_range_end (I.ok.hd hc) st (by have : n ≤ i := hg; omega) fun h' eb => ⟨rfl, I.turned (t' := s.toks) (fun b o hb e => eb b o hb e) f0 f1 f3 f4 f5⟩
  self := fun _ _ _ _ _ st h => wpAny_pyIter_rangeiter st h
end L2

namespace L2
open PySem PySem.Spec PyProof.Rows
section
variable {X : Cx} {tg : Expr}
def iList (K : PySem.W.Frag) (tl : TE) : TI := fun σ H R => tl σ H fun x H1 => ∃ a, x = .ref a ∧ (∃ xs, SqL K H1 a xs) ∧ R (Itl K a) H1
theorem pi_list {l : Expr} {tl : TE} (hl : PE X l tl) : PI X tg l (iList X.K tl) := by
  intro pins s σ H R I h
  refine thn (hl pins s σ H _ I h) fun v s1 ⟨x, H1, I1, r1, q1⟩ => ?_
  obtain ⟨a, e, ⟨xs, hq⟩, q⟩ := q1
  subst e
  cases r1
  obtain ⟨its, rv, p, hz⟩ := I1.list hq
  refine wpAny_pyIter_list p.isList ?_
  refine ⟨s1.heap.objs.size, [s1.heap.objs.size], _, _, H1, rfl, I1.kept (t' := s1.toks) fun b o e => Heap.get?_push_of_some _ e, turn_list a _, ⟨_, Heap.get?_push_size _ rfl, rfl, rfl⟩, fun b hb => ?_, q⟩
  have e : b = s1.heap.objs.size := by simpa using hb
  subst e
  exact I1.fpOk (Nat.le_refl _) (I1.hok.fresh (Nat.le_refl _))
/-- a range object just made, walked -/
theorem range_it {pins : List (Addr × Obj)} {σ : St} {H : Hp} {s : Shared} {R : It → Hp → Prop} {E : Value → Shared → Prop} {lo hi : Int} {t u v : Tok} {tk : Nat} (I : Inv X pins σ H s) (h1 : -(2 ^ 62) ≤ lo) (h2 : lo < 2 ^ 62) (h3 : -(2 ^ 62) ≤ hi) (h4 : hi < 2 ^ 62)
    (q : R (Itr lo (hi - lo).toNat) H) : wpAny (model X.prog X.w) X.A (pyIter (.ref s.heap.objs.size)) (PIE X pins σ tg R) E { s with heap := s.heap.push { cls := .type "range", data := .fields #[.int lo t, .int hi u, .int 1 v] }, toks := tk } := by
  refine wpAny_pyIter_range (IsRange.new ..) (small_one h1 h2 h3 h4) ?_
  have I1 : Inv X pins σ H { s with heap := s.heap.push { cls := .type "range", data := .fields #[.int lo t, .int hi u, .int 1 v] }, toks := tk } := I.kept fun b o e => Heap.get?_push_of_some _ e
  refine ⟨(s.heap.push { cls := .type "range", data := .fields #[.int lo t, .int hi u, .int 1 v] }).objs.size, [(s.heap.push { cls := .type "range", data := .fields #[.int lo t, .int hi u, .int 1 v] }).objs.size], _, _, H, rfl,
    I1.kept (t' := tk) fun b o e => Heap.get?_push_of_some _ e, turn_range _ lo (hi - lo).toNat, ?_, fun b hb => ?_, q⟩
  · have e1 : lo + ((0 : Nat) : Int) * 1 = lo := by simp
    have e2 : (((hi - lo).toNat : Nat) : Int) - ((0 : Nat) : Int) = Builtin.Range.rangeSize lo hi 1 := by rw [rangeSize_one]; split <;> omega
    show IsRangeIter _ _ (lo + ((0 : Nat) : Int) * 1) ((((hi - lo).toNat : Nat) : Int) - ((0 : Nat) : Int)) 1
    rw [e1, e2]
    exact Heap.get?_push_size _ rfl
  · have e : b = (s.heap.push { cls := .type "range", data := .fields #[.int lo t, .int hi u, .int 1 v] }).objs.size := by simpa using hb
    subst e
    exact I1.fpOk (Nat.le_refl _) (I1.hok.fresh (Nat.le_refl _))
def iRng1 (ta : TA) : TI := fun σ H R => ta σ H fun vs H1 => ∃ j : Int, vs = [.int j] ∧ -(2 ^ 62) ≤ j ∧ j < 2 ^ 62 ∧ R (Itr 0 j.toNat) H1
def iRng2 (ta : TA) : TI := fun σ H R => ta σ H fun vs H1 => ∃ i j : Int, vs = [.int i, .int j] ∧ (-(2 ^ 62) ≤ i ∧ i < 2 ^ 62 ∧ -(2 ^ 62) ≤ j ∧ j < 2 ^ 62) ∧ R (Itr i (j - i).toNat) H1
theorem pi_range1 {a : Expr} {ta : TA} {p pos : Pos} (hg : Gl X "range") (hm : X.mg "range" = none) (ha : PA X [a] ta) (hs : starEach [a] X.env = [(false, eval a X.env)] := by rfl) : PI X tg (.Call (.Name "range" p) [a] [] pos) (iRng1 ta) := by
  intro pins s σ H R I h
  refine Call_ (ld_blt I hg hm boot_range (PyProof.Rows.callWith_type1 (thn (ha pos pins s σ H _ I h) fun us s1 ⟨vs, H1, I1, r1, q1⟩ => ?_) hs rfl))
  obtain ⟨j, e, q1, q2, q⟩ := q1
  subst e
  cases r1 with
  | cons r rr =>
    cases rr
    obtain ⟨t, rfl⟩ := r
    exact call_range_1 (range_it I1 (by omega) (by omega) q1 q2 (by simpa using q))
theorem pi_range2 {a b : Expr} {ta : TA} {p pos : Pos} (hg : Gl X "range") (hm : X.mg "range" = none) (ha : PA X [a, b] ta) (hs : starEach [a, b] X.env = [(false, eval a X.env), (false, eval b X.env)] := by rfl) (hs2 : starEach [b] X.env = [(false, eval b X.env)] := by rfl) :
    PI X tg (.Call (.Name "range" p) [a, b] [] pos) (iRng2 ta) := by
  intro pins s σ H R I h
  refine Call_ (ld_blt I hg hm boot_range (PyProof.Rows.callWith_type1 (thn (ha pos pins s σ H _ I h) fun us s1 ⟨vs, H1, I1, r1, q1⟩ => ?_) (by rw [hs, hs2]) (by rw [hs2]; rfl)))
  obtain ⟨i, j, e, ⟨q1, q2, q3, q4⟩, q⟩ := q1
  subst e
  cases r1 with
  | cons r rr =>
    cases rr with
    | cons r' rr =>
      cases rr
      obtain ⟨t, rfl⟩ := r
      obtain ⟨t', rfl⟩ := r'
      exact call_range_2 (range_it I1 q1 q2 q3 q4 q)

/-! ### for -/
/-- W: the invariant by the turn and a measure; N: what the body is to reach -/
def tFor (wi : TI) (g : TG) (tb : TS) : TS := fun D σ H => wi σ H fun J H1 => ∃ W : Nat → Nat → St → Hp → Prop, (∃ m, W 0 m σ H1) ∧ ∀ i m σ H, W i m σ H →
  (J.stop i H ∧ D.nx σ H) ∨ (J.go i H ∧ ∃ N : St → Hp → Prop, (∀ σ' H', N σ' H' → ∃ m', m' < m ∧ W (i + 1) m' σ' H') ∧ ∀ x H', J.yld i H x H' → g x σ H' fun σ2 H2 => tb { D with nx := N, ct := N, bk := D.nx } σ2 H2)
/-- the records at fp as they stand -/
def pinsAt (fp : List Addr) (h : Heap) : List (Addr × Obj) := fp.filterMap fun b => (h.get? b).map fun o => (b, o)
theorem mem_pinsAt {fp : List Addr} {h : Heap} {b : Addr} {o : Obj} (hb : b ∈ fp) (e : h.get? b = some o) : (b, o) ∈ pinsAt fp h := List.mem_filterMap.mpr ⟨b, hb, by rw [e]; rfl⟩
theorem of_pinsAt {fp : List Addr} {h : Heap} {p : Addr × Obj} (hp : p ∈ pinsAt fp h) : p.1 ∈ fp ∧ h.get? p.1 = some p.2 := by
  obtain ⟨b, hb, e⟩ := List.mem_filterMap.mp hp
  cases q : h.get? b with
  | none => rw [q] at e; cases e
  | some o =>
    rw [q] at e
    have e' : (b, o) = p := Option.some.inj e
    subst e'
    exact ⟨hb, q⟩
theorem Inv.pinned {pins : List (Addr × Obj)} {σ : St} {H : Hp} {s : Shared} {fp : List Addr} (I : Inv X pins σ H s) (hf : ∀ b ∈ fp, FpOk X pins H b) (ho : ∀ b ∈ fp, ∃ o, s.heap.get? b = some o ∧ ∀ v, o.data ≠ .cell v) : Inv X (pins ++ pinsAt fp s.heap) σ H s :=
  I.pins_of fun p hp => (List.mem_append.mp hp).elim (fun z => I.pin p (List.mem_append_right _ z)) fun z => by
    obtain ⟨hb, e⟩ := of_pinsAt z
    obtain ⟨f0, f1, f2, _⟩ := hf p.1 hb
    obtain ⟨o, e', d⟩ := ho p.1 hb
    rw [e] at e'; cases e'
    exact ⟨e, f0, f1, f2, d⟩
theorem Inv.unpinned {pins pl : List (Addr × Obj)} {σ : St} {H : Hp} {s : Shared} (I : Inv X (pins ++ pl) σ H s) : Inv X pins σ H s := I.pins_of fun p hp => I.pin p (List.mem_append_right _ (List.mem_append_left _ hp))
theorem ps_for {iter : Expr} {body : List Stmt} {wi : TI} {g : TG} {tb : TS} {pos : Pos} (hp : PassesOwn (model X.prog X.w) X.A X.env X.xe) (hc : X.calm = true) (hi : PI X tg iter wi) (hg : PG X tg g) (hb : PSs X body tb)
    (hs : ∀ x, foldedSetIterable iter X.env x = pure x := by intro _; rfl) : PS X (.For tg iter body [] pos) (tFor wi g tb) := by
  intro pins s σ H D I h
  refine wpAny_For (thn (hi pins s σ H _ I h) fun v s1 h1 => thn h1 fun itv s2 h2 => ?_) hs
  obtain ⟨it, fp, tn, J, H2, e, I2, T, st2, f2, W, ⟨m0, w0⟩, turn⟩ := h2
  subst e
  -- what stays true of the iterator's objects through the loop
  have stat : ∀ {H' : Hp}, (∀ b ∈ fp, H' b = none) → ∀ b ∈ fp, FpOk X pins H' b := fun hn b hb => ⟨hn b hb, (f2 b hb).2⟩
  refine codeAny_forLoop_any (fun n s' => ∃ i σ' H', Inv X pins σ' H' s' ∧ tn i s'.heap ∧ (∀ b ∈ fp, H' b = none) ∧ W i n σ' H') ?_ m0 ⟨0, σ, H2, I2, st2, fun b hb => (f2 b hb).1, w0⟩
  rintro n s3 ⟨i, σ3, H3, I3, st3, fr3, w3⟩
  rcases turn i n σ3 H3 w3 with ⟨stop, qn⟩ | ⟨go, N, hN, step⟩
  · refine wpAny_passesOwn hp (thn (T.done X rfl rfl rfl hc i pins s3 σ3 H3 X.xe I3 (stat fr3) st3 stop) fun r s4 ⟨hr, I4⟩ => ?_)
    subst hr
    exact wpAny_execs_nil ⟨σ3, H3, I4, qn⟩
  · refine wpAny_passesOwn hp (thn (T.item X rfl rfl rfl hc i pins s3 σ3 H3 X.xe I3 (stat fr3) st3 go) fun r s4 ⟨u, hr, h4⟩ => ?_)
    subst hr
    refine wpAny_passesOwn hp (thn h4 fun _ s5 ⟨x, H5, I5, r5, y5, st5, fr5⟩ => ?_)
    have I5' := I5.pinned (stat fr5) (T.obj _ _ st5)
    refine wpAny_passesOwn hp (thn (hg _ s5 σ3 H5 x u _ I5' r5 (step x H5 y5)) fun _ s6 ⟨σ6, H6, I6, q6⟩ => ?_)
    refine wpAny_passesOwn hp (thn (hb _ s6 σ6 H6 _ I6 q6) fun f s7 q7 => ?_)
    have again : ∀ {σ7 : St} {H7 : Hp}, Inv X (pins ++ pinsAt fp s5.heap) σ7 H7 s7 → N σ7 H7 → ∃ m, m < n ∧ ∃ i σ' H', Inv X pins σ' H' s7 ∧ tn i s7.heap ∧ (∀ b ∈ fp, H' b = none) ∧ W i m σ' H' := fun {σ7 H7} I7 n7 => by
      obtain ⟨m', hm, w7⟩ := hN σ7 H7 n7
      refine ⟨m', hm, i + 1, σ7, H7, I7.unpinned, T.keep _ _ _ st5 fun b hb o e => (I7.pin (b, o) (List.mem_append_right _ (List.mem_append_right _ (mem_pinsAt hb e)))).1, fun b hb => ?_, w7⟩
      obtain ⟨o, e, d⟩ := T.obj _ _ st5 b hb
      exact (I7.pin (b, o) (List.mem_append_right _ (List.mem_append_right _ (mem_pinsAt hb e)))).2.1
    cases f with
    | next => obtain ⟨σ7, H7, I7, n7⟩ := q7; exact again I7 n7
    | cont => obtain ⟨σ7, H7, I7, n7⟩ := q7; exact again I7 n7
    | brk => obtain ⟨σ7, H7, I7, q7⟩ := q7; exact ⟨σ7, H7, I7.unpinned, q7⟩
    | ret v => obtain ⟨x7, σ7, H7, I7, r7, q7⟩ := q7; exact ⟨x7, σ7, H7, I7.unpinned, r7, q7⟩
end

/-! ### the forms one uses -/
theorem for_range {lo : Int} {n : Nat} {g : TG} {tb : TS} {D : Ends} {σ : St} {H : Hp} (Pv : Nat → St → Hp → Prop) (h0 : Pv 0 σ H)
    (hs : ∀ i σ H, i < n → Pv i σ H → g (.int (lo + i)) σ H fun σ2 H2 => tb { D with nx := Pv (i + 1), ct := Pv (i + 1), bk := D.nx } σ2 H2) (hd : ∀ σ H, Pv n σ H → D.nx σ H) :
    ∃ W : Nat → Nat → St → Hp → Prop, (∃ m, W 0 m σ H) ∧ ∀ i m σ H, W i m σ H →
      ((Itr lo n).stop i H ∧ D.nx σ H) ∨ ((Itr lo n).go i H ∧ ∃ N : St → Hp → Prop, (∀ σ' H', N σ' H' → ∃ m', m' < m ∧ W (i + 1) m' σ' H') ∧ ∀ x H', (Itr lo n).yld i H x H' → g x σ H' fun σ2 H2 => tb { D with nx := N, ct := N, bk := D.nx } σ2 H2) := by
  refine ⟨fun i m σ H => m = n - i ∧ i ≤ n ∧ Pv i σ H, ⟨n, by simp, Nat.zero_le _, h0⟩, ?_⟩
  rintro i m σ H ⟨rfl, hi, p⟩
  by_cases hlt : i < n
  · refine .inr ⟨hlt, Pv (i + 1), fun σ' H' p' => ⟨n - (i + 1), by omega, rfl, hlt, p'⟩, fun x H' y => ?_⟩
    obtain ⟨e, y⟩ := y
    subst e y
    exact hs i σ _ hlt p
  · have e : i = n := by omega
    subst e
    exact .inl ⟨Nat.le_refl _, hd σ H p⟩
end L2

namespace L2
open PySem PySem.Spec PyProof.Rows

abbrev R2 := V → V → Hp → VK → Prop
/-- a two-place operation on values: f is binaryOp op, inplaceOp op or compareOp op -/
def OpR (X : Cx) (f : Value → Value → Sem Value) (r : R2) : Prop :=
  ∀ (pins : List (Addr × Obj)) (s : Shared) (σ : St) (H : Hp) (x y : V) (v u : Value) (Q : VK), Inv X pins σ H s → RelV x v → RelV y u → r x y H Q →
    wpAny (model X.prog X.w) X.A (f v u) (EP X pins σ Q) X.xe s
/-- a call of a value that is known (a builtin, a type) with values -/
def CallR (X : Cx) (f : Value) (r : List V → Hp → VK → Prop) : Prop :=
  ∀ (pins : List (Addr × Obj)) (s : Shared) (σ : St) (H : Hp) (xs : List V) (us : List Value) (Q : VK), Inv X pins σ H s → Vals xs us → r xs H Q →
    wpAny (model X.prog X.w) X.A (call f us) (EP X pins σ Q) X.xe s
def tOp (r : R2) (ta tb : TE) : TE := fun σ H Q => ta σ H fun x H1 => tb σ H1 fun y H2 => r x y H2 Q
/-- ints in, under C, and a value out -/
def rI (C : Int → Int → Prop) (g : Int → Int → V) : R2 := fun x y H Q => ∃ i j, x = .int i ∧ y = .int j ∧ C i j ∧ Q (g i j) H
def rI0 (g : Int → Int → V) : R2 := fun x y H Q => ∃ i j, x = .int i ∧ y = .int j ∧ Q (g i j) H
section
variable {X : Cx} {a b c : Expr} {ta tb tc : TE} {pos : Pos}

theorem binT (ha : PE X a ta) (hb : PE X b tb) {pins : List (Addr × Obj)} {s : Shared} {σ : St} {H : Hp} {R : V → V → Hp → Prop} (I : Inv X pins σ H s)
    (h : ta σ H fun x H1 => tb σ H1 fun y H2 => R x y H2) {Q : Value → Shared → Prop} {f : Value → Value → Sem Value}
    (hf : ∀ v u s2 x y H2, Inv X pins σ H2 s2 → RelV x v → RelV y u → R x y H2 → wpAny (model X.prog X.w) X.A (f v u) Q X.xe s2) :
    wpAny (model X.prog X.w) X.A (eval a X.env) (fun v s₁ => wpAny (model X.prog X.w) X.A (eval b X.env) (fun u s₂ => wpAny (model X.prog X.w) X.A (f v u) Q X.xe s₂) X.xe s₁) X.xe s := by
  refine thn (ha pins s σ H _ I h) fun v s1 ⟨x, H1, I1, r1, q1⟩ => ?_
  refine thn (hb pins s1 σ H1 _ I1 q1) fun u s2 ⟨y, H2, I2, r2, q2⟩ => ?_
  exact hf v u s2 x y H2 I2 r1 r2 q2

theorem pe_op {op : Operator} {r : R2} (ho : OpR X (binaryOp op) r) (ha : PE X a ta) (hb : PE X b tb) : PE X (.BinOp a op b pos) (tOp r ta tb) := by
  intro pins s σ H Q I h
  exact wpAny_BinOp (binT ha hb I h fun v u s2 x y H2 I2 rx ry q => ho pins s2 σ H2 x y v u Q I2 rx ry q)
/-! ### ints -/
theorem opI {f : Value → Value → Sem Value} {C : Int → Int → Prop} {g : Int → Int → Int}
    (rule : ∀ (i j : Int) (t u : Tok) (s : Shared) (Q : Value → Shared → Prop) (E : Value → Shared → Prop), C i j → Q (.int (g i j) s.toks) { s with toks := s.toks + 1 } → wpAny (model X.prog X.w) X.A (f (.int i t) (.int j u)) Q E s) :
    OpR X f (rI C fun i j => .int (g i j)) := by
  intro pins s σ H x y v u Q I rx ry h
  obtain ⟨i, j, rfl, rfl, hc, q⟩ := h
  obtain ⟨t, rfl⟩ := rx
  obtain ⟨t', rfl⟩ := ry
  exact rule i j t t' s _ _ hc ⟨.int (g i j), H, I.tok _, ⟨_, rfl⟩, q⟩
theorem opI0 {f : Value → Value → Sem Value} {g : Int → Int → Int}
    (rule : ∀ (i j : Int) (t u : Tok) (s : Shared) (Q : Value → Shared → Prop) (E : Value → Shared → Prop), Q (.int (g i j) s.toks) { s with toks := s.toks + 1 } → wpAny (model X.prog X.w) X.A (f (.int i t) (.int j u)) Q E s) :
    OpR X f (rI0 fun i j => .int (g i j)) := by
  intro pins s σ H x y v u Q I rx ry h
  obtain ⟨i, j, rfl, rfl, q⟩ := h
  obtain ⟨t, rfl⟩ := rx
  obtain ⟨t', rfl⟩ := ry
  exact rule i j t t' s _ _ ⟨.int (g i j), H, I.tok _, ⟨_, rfl⟩, q⟩
theorem opB0 {f : Value → Value → Sem Value} {g : Int → Int → Bool}
    (rule : ∀ (i j : Int) (t u : Tok) (s : Shared) (Q : Value → Shared → Prop) (E : Value → Shared → Prop), Q (.bool (g i j)) s → wpAny (model X.prog X.w) X.A (f (.int i t) (.int j u)) Q E s) :
    OpR X f (rI0 fun i j => .bl (g i j)) := by
  intro pins s σ H x y v u Q I rx ry h
  obtain ⟨i, j, rfl, rfl, q⟩ := h
  obtain ⟨t, rfl⟩ := rx
  obtain ⟨t', rfl⟩ := ry
  exact rule i j t t' s _ _ ⟨.bl (g i j), H, I, rfl, q⟩

def CDiv (i j : Int) : Prop := 0 < j ∧ j < 1073741824
def CMul (i j : Int) : Prop := (-(2 ^ 64) < i ∧ i < 2 ^ 64) ∨ (-(2 ^ 64) < j ∧ j < 2 ^ 64)
theorem CMul.ok {i j : Int} (h : CMul i j) : IntMulOk i j := by
  rcases h with ⟨h1, h2⟩ | ⟨h1, h2⟩
  · exact .of_left (intBits_le_64 h1 h2)
  · exact .of_right (intBits_le_64 h1 h2)
theorem op_add : OpR X (binaryOp .Add) (rI0 fun i j => .int (i + j)) := opI0 fun _ _ _ _ _ _ _ q => add_int q
theorem op_sub : OpR X (binaryOp .Sub) (rI0 fun i j => .int (i - j)) := opI0 fun _ _ _ _ _ _ _ q => sub_int q
theorem op_mul : OpR X (binaryOp .Mult) (rI CMul fun i j => .int (i * j)) := opI fun _ _ _ _ _ _ _ hc q => mul_int q hc.ok
/-- // by a positive divisor -/
theorem op_fdiv : OpR X (binaryOp .FloorDiv) (rI CDiv fun i j => .int (i / j)) := opI fun i j _ _ _ _ _ hc q => by
  have h1 : (0 : Int) < j := hc.1
  have h2 : j < 1073741824 := hc.2
  exact floordiv_int (by omega) (by rw [Int.fdiv_eq_ediv_of_nonneg i (by omega)]; exact q) (.inl (PyProof.noPylong_small (by omega)))
/-- % by a positive divisor of any size -/
theorem op_mod : OpR X (binaryOp .Mod) (rI (fun _ j => 0 < j) fun i j => .int (i % j)) := opI fun i j _ _ _ _ _ hc q => by
  have h1 : (0 : Int) < j := hc
  exact mod_int' (by omega) (by rw [Int.fmod_eq_emod_of_nonneg i (by omega)]; exact q)
/-! ### bools among ints: n += (a < b) -/
end

/-! ### comparisons -/
/-- the scalars that == tells apart as data does -/
def scal : V → V → Bool
  | .non, .non => true | .non, .int _ => true | .int _, .non => true | .non, .bl _ => true | .bl _, .non => true | .non, .str _ => true | .str _, .non => true
  | .int _, .int _ => true | .bl _, .bl _ => true | .str _, .str _ => true | .byt _, .byt _ => true
  | .int _, .str _ => true | .str _, .int _ => true | .bl _, .str _ => true | .str _, .bl _ => true
  | _, _ => false
def rEq : R2 := fun x y H Q => scal x y = true ∧ Q (.bl (decide (x = y))) H
def rNe : R2 := fun x y H Q => scal x y = true ∧ Q (.bl (!decide (x = y))) H

theorem dec_int {i j : Int} : decide (V.int i = V.int j) = (i == j) := by
  rw [Bool.eq_iff_iff]
  simp
theorem dec_bl {i j : Bool} : decide (V.bl i = V.bl j) = (i == j) := by
  rw [Bool.eq_iff_iff]
  simp
theorem dec_str {i j : Str} : decide (V.str i = V.str j) = (i == j) := by
  rw [Bool.eq_iff_iff]
  simp
theorem dec_byt {i j : Array UInt8} : decide (V.byt i = V.byt j) = (i.toList == j.toList) := by
  rw [Bool.eq_iff_iff]
  cases i
  cases j
  simp

section
variable {X : Cx} {a b c : Expr} {ta tb tc : TE} {pos : Pos}
theorem fin_bl {pins : List (Addr × Obj)} {σ : St} {H : Hp} {s : Shared} {Q : VK} {k k' : Bool} (I : Inv X pins σ H s) (q : Q (.bl k) H) (e : k = k') : EP X pins σ Q (.bool k') s := by
  subst e
  exact ⟨.bl k, H, I, rfl, q⟩
theorem op_eq : OpR X (compareOp .Eq) rEq := by
  intro pins s σ H x y v u Q I rx ry h
  obtain ⟨hs, q⟩ := h
  cases x with
  | non =>
    cases rx
    cases y with
    | non => cases ry; exact PySem.EqNone.eq_none_none (fin_bl I q (by simp))
    | bl j => cases ry; exact PySem.EqNone.eq_none_bool (fin_bl I q (by simp))
    | int j => obtain ⟨t', rfl⟩ := ry; exact PySem.EqNone.eq_none_int (fin_bl I q (by simp))
    | str j => obtain ⟨t', rfl⟩ := ry; exact PySem.EqNone.eq_none_str (fin_bl I q (by simp))
    | _ => exact absurd (show false = true from hs) Bool.false_ne_true
  | bl i =>
    cases rx
    cases y with
    | non => cases ry; exact PySem.EqNone.eq_bool_none (fin_bl I q (by simp))
    | bl j => cases ry; exact eq_bool (fin_bl I q dec_bl)
    | str j => obtain ⟨t', rfl⟩ := ry; exact PySem.EqMixed.eq_bool_str (fin_bl I q (by simp))
    | _ => exact absurd (show false = true from hs) Bool.false_ne_true
  | int i =>
    obtain ⟨t, rfl⟩ := rx
    cases y with
    | non => cases ry; exact PySem.EqNone.eq_int_none (fin_bl I q (by simp))
    | int j => obtain ⟨t', rfl⟩ := ry; exact eq_int (fin_bl I q dec_int)
    | str j => obtain ⟨t', rfl⟩ := ry; exact PySem.EqMixed.eq_int_str (fin_bl I q (by simp))
    | _ => exact absurd (show false = true from hs) Bool.false_ne_true
  | str i =>
    obtain ⟨t, rfl⟩ := rx
    cases y with
    | non => cases ry; exact PySem.EqNone.eq_str_none (fin_bl I q (by simp))
    | bl j => cases ry; exact PySem.EqMixed.eq_str_bool (fin_bl I q (by simp))
    | int j => obtain ⟨t', rfl⟩ := ry; exact PySem.EqMixed.eq_str_int (fin_bl I q (by simp))
    | str j => obtain ⟨t', rfl⟩ := ry; exact eq_str (fin_bl I q dec_str)
    | _ => exact absurd (show false = true from hs) Bool.false_ne_true
  | byt i =>
    obtain ⟨t, rfl⟩ := rx
    cases y with
    | byt j => obtain ⟨t', rfl⟩ := ry; exact PySem.W.eq_bytes (fin_bl I q dec_byt)
    | _ => exact absurd (show false = true from hs) Bool.false_ne_true
  | _ => cases y <;> exact absurd (show false = true from hs) Bool.false_ne_true
theorem op_ne : OpR X (compareOp .NotEq) rNe := by
  intro pins s σ H x y v u Q I rx ry h
  obtain ⟨hs, q⟩ := h
  cases x with
  | non =>
    cases rx
    cases y with
    | non => cases ry; exact PySem.EqNone.ne_none_none (fin_bl I q (by simp))
    | bl j => cases ry; exact PySem.EqNone.ne_none_bool (fin_bl I q (by simp))
    | int j => obtain ⟨t', rfl⟩ := ry; exact PySem.EqNone.ne_none_int (fin_bl I q (by simp))
    | str j => obtain ⟨t', rfl⟩ := ry; exact PySem.EqNone.ne_none_str (fin_bl I q (by simp))
    | _ => exact absurd (show false = true from hs) Bool.false_ne_true
  | bl i =>
    cases rx
    cases y with
    | non => cases ry; exact PySem.EqNone.ne_bool_none (fin_bl I q (by simp))
    | bl j => cases ry; exact ne_bool (fin_bl I q (congrArg not dec_bl))
    | str j => obtain ⟨t', rfl⟩ := ry; exact PySem.EqMixed.ne_bool_str (fin_bl I q (by simp))
    | _ => exact absurd (show false = true from hs) Bool.false_ne_true
  | int i =>
    obtain ⟨t, rfl⟩ := rx
    cases y with
    | non => cases ry; exact PySem.EqNone.ne_int_none (fin_bl I q (by simp))
    | int j => obtain ⟨t', rfl⟩ := ry; exact ne_int (fin_bl I q (congrArg not dec_int))
    | str j => obtain ⟨t', rfl⟩ := ry; exact PySem.EqMixed.ne_int_str (fin_bl I q (by simp))
    | _ => exact absurd (show false = true from hs) Bool.false_ne_true
  | str i =>
    obtain ⟨t, rfl⟩ := rx
    cases y with
    | non => cases ry; exact PySem.EqNone.ne_str_none (fin_bl I q (by simp))
    | bl j => cases ry; exact PySem.EqMixed.ne_str_bool (fin_bl I q (by simp))
    | int j => obtain ⟨t', rfl⟩ := ry; exact PySem.EqMixed.ne_str_int (fin_bl I q (by simp))
    | str j => obtain ⟨t', rfl⟩ := ry; exact ne_str (fin_bl I q (congrArg not dec_str))
    | _ => exact absurd (show false = true from hs) Bool.false_ne_true
  | byt i =>
    obtain ⟨t, rfl⟩ := rx
    cases y with
    | byt j => obtain ⟨t', rfl⟩ := ry; exact PySem.W.ne_bytes (fin_bl I q (congrArg not dec_byt))
    | _ => exact absurd (show false = true from hs) Bool.false_ne_true
  | _ => cases y <;> exact absurd (show false = true from hs) Bool.false_ne_true

theorem op_lt : OpR X (compareOp .Lt) (rI0 fun i j => .bl (decide (i < j))) := opB0 fun _ _ _ _ _ _ _ q => lt_int q
theorem op_le : OpR X (compareOp .LtE) (rI0 fun i j => .bl (decide (i ≤ j))) := opB0 fun _ _ _ _ _ _ _ q => le_int q
theorem op_gt : OpR X (compareOp .Gt) (rI0 fun i j => .bl (decide (j < i))) := opB0 fun _ _ _ _ _ _ _ q => gt_int q
theorem op_ge : OpR X (compareOp .GtE) (rI0 fun i j => .bl (decide (j ≤ i))) := opB0 fun _ _ _ _ _ _ _ q => ge_int q
theorem nomark (b : Expr) {op : CmpOp} (h : op ≠ .In := by decide) (h2 : op ≠ .NotIn := by decide) : behindInMarks op b = false := by
  have e1 : (op == CmpOp.In) = false := by cases op <;> first | rfl | exact absurd rfl h
  have e2 : (op == CmpOp.NotIn) = false := by cases op <;> first | rfl | exact absurd rfl h2
  cases b <;> simp [behindInMarks, e1, e2]
/-- a comparison as a value; hm: nomark b, or (for in, not in) by with_unfolding_all rfl -/
theorem pe_cmpR {op : CmpOp} {r : R2} (ho : OpR X (compareOp op) r) (ha : PE X a ta) (hb : PE X b tb) (hm : behindInMarks op b = false) : PE X (.Compare a [op] [b] pos) (tOp r ta tb) := by
  intro pins s σ H Q I h
  exact wpAny_Compare1 (binT ha hb I h fun v u s2 x y H2 I2 rx ry q => ho pins s2 σ H2 x y v u Q I2 rx ry q) hm
/-- a reading of a value as a test -/
def tTest (t : TE) : TT := fun σ H Q => t σ H fun x H' => ∃ k, x = .bl k ∧ Q k H'
theorem pt_cmpR {op : CmpOp} {r : R2} (ho : OpR X (compareOp op) r) (ha : PE X a ta) (hb : PE X b tb) (hm : behindInMarks op b = false) : PT X (.Compare a [op] [b] pos) (tTest (tOp r ta tb)) := by
  intro pins s σ H Q I h
  refine wpAny_isTrue_Compare1 (thn (ha pins s σ H _ I h) fun v s1 ⟨x, H1, I1, r1, q1⟩ => thn (hb pins s1 σ H1 _ I1 q1) fun u s2 ⟨y, H2, I2, r2, q2⟩ =>
    thn (ho pins s2 σ H2 x y v u _ I2 r1 r2 q2) fun c s3 ⟨z, H3, I3, r3, k, e, q3⟩ => ?_) hm
  subst e
  cases r3
  exact wpAny_truthy_bool ⟨H3, I3, q3⟩
/-! ### truth -/
theorem line63 : (sizeLine : Nat) < 2 ^ 63 := by rw [sizeLine_eq]; decide
/-! ### strs and bytes -/
/-! ### scalar builtins, by CallR -/
theorem vals1 {x : V} {us : List Value} (r : Vals [x] us) : ∃ u, us = [u] ∧ RelV x u := by
  cases r with
  | cons r1 r2 => cases r2; exact ⟨_, rfl, r1⟩
end
end L2

namespace L2
open PySem PySem.Spec PyProof.Rows

/-! ### an instance, its attributes a map -/
structure ObjM (h : Heap) (x dx C : Addr) (mA : Str → Option Value) : Prop where
  obj : h.get? x = some (PySem.W.instObj C dx)
  ns : h.Ns1 dx mA
  ne : dx ≠ x

theorem lookIn_ns {h : Heap} {dx : Addr} {mA : Str → Option Value} (n : h.Ns1 dx mA) : ∃ od, h.get? dx = some od ∧ ∀ name, PySem.W.lookIn name od = some (mA name) := by
  obtain ⟨o, es, ep, ho, hd, hk, _, hm⟩ := n
  refine ⟨o, ho, fun name => ?_⟩
  have e := hm name
  unfold nsFind findBy at e
  rw [← Array.find?_toList] at e
  unfold PySem.W.lookIn
  rw [hd]
  dsimp only
  split
  · rename_i y q
    rw [q] at e
    exact congrArg some e
  · rename_i q
    rw [q] at e
    have a : es.toList.any (·.refKey) = false := by
      rw [List.any_eq_false]
      intro y hy
      obtain ⟨z, t, hkey⟩ := hk y (Array.mem_toList_iff.mp hy)
      simp [DictEntry.refKey, hkey]
    have a' : ¬ es.toList.any (·.refKey) = true := by rw [a]; exact Bool.false_ne_true
    rw [if_neg a']
    exact congrArg some e

theorem ObjM.look {h : Heap} {x dx C : Addr} {mA : Str → Option Value} (I : ObjM h x dx C mA) : ∃ od, PySem.W.InstAt h x (PySem.W.instObj C dx) C (some od) ∧ ∀ name, PySem.W.lookIn name od = some (mA name) :=
  let ⟨od, ho, hl⟩ := lookIn_ns I.ns
  ⟨od, ⟨I.obj, rfl, rfl, ho⟩, hl⟩

section
variable {prog : Program} {w : World} {A : Around} {E : Value → Shared → Prop} {s : Shared} {K : PySem.W.Frag} {x dx C f : Addr} {mA : Str → Option Value} {name : Str} {v : Value}

theorem get_map {expr : Bool} {Q : Value → Shared → Prop} (X : K.In s.heap) (I : ObjM s.heap x dx C mA) (hg : PySem.W.plainGet K C name = true) (hh : PySem.W.hasDictIn K C = true)
    (ha : PySem.W.findIn K (.ref C) name = some none) (hv : mA name = some v) (hv' : PySem.W.handedIn v = true) (h : Q v { s with toks := s.toks + 1 }) :
    wpAny (model prog w) A (getAttr (.ref x) name expr) Q E s := by
  obtain ⟨od, J, hl⟩ := I.look
  exact PySem.W.get_value X J (PySem.W.plainGet_of hg).1 (PySem.W.findObj_own hh ha rfl (by rw [hl, hv])) hv' h

theorem get_meth {pl : Sem Bool} {Q : Value × List Value → Shared → Prop} (X : K.In s.heap) (I : ObjM s.heap x dx C mA) (hg : PySem.W.plainGet K C name = true)
    (hf : PySem.W.findIn K (.ref C) name = some (some (.ref f))) (ht : PySem.W.isFn K (.ref f) = true) (hv : mA name = none) (h : Q (.ref f, [.ref x]) s) :
    wpAny (model prog w) A (getMethod (.ref x) name pl) Q E s := by
  obtain ⟨od, J, hl⟩ := I.look
  exact PySem.W.method_fn X J (PySem.W.plainGet_of hg).1 (PySem.W.plainGet_of hg).2 hf (beq_iff_eq.mp ht) (by show (PySem.W.lookIn name od).map (·.isSome) = some false; rw [hl, hv]; rfl) h

theorem set_map {ns : List Str} {Q : Unit → Shared → Prop} (X : K.In s.heap) (I : ObjM s.heap x dx C mA)
    (hs : PySem.W.findIn K (.ref C) "__setattr__" = some (some (.builtin "object.__setattr__"))) (hp : PySem.W.plainOver K C = true) (ht : PySem.W.takerIn K C name = some none) (hh : PySem.W.hasDictIn K C = true)
    (hw : PySem.Within mA ns) (hsz : ns.length ≤ sizeLine)
    (h : ∀ h', ObjM h' x dx C (fun y => if y = name then some v else mA y) → Heap.SameBut dx s.heap h' → Q () { s with heap := h', toks := s.toks + 2 }) :
    wpAny (model prog w) A (setAttr (.ref x) name v) Q E s := by
  obtain ⟨od, J, hl⟩ := I.look
  refine PySem.W.set_plain X J hs (PySem.W.osa_open (s := { s with toks := s.toks + 1 }) (r := none) X J hp ht fun b => ?_)
  obtain ⟨cd, hc, hd'⟩ := PySem.W.any_some hh
  have hx : s.heap.get? x = some ⟨.ref C, some dx, .plain, #[]⟩ := I.obj
  refine wpAny_bind (wpAny_pure (wpAny_bind (wpAny_bind (wpAny_loadPart hx (wpAny_bind (PySem.W.Looks.here (s := { s with toks := s.toks + 1 }) (PySem.W.looks_clsIn X hc) ?_))))))
  rw [hd']
  refine wpAny_pure (a := some dx) (wpAny_bind (wpAny_pure (wpAny_bind ?_)))
  refine wpAny_nsSet1 (s := { s with toks := s.toks + 1 }) I.ns fun h' hn2 hs2 => ?_
  obtain ⟨oD, esD, epD, hoD, hdD, hcD⟩ := hn2.count (PySem.Within.cons name v hw)
  refine wpAny_bind (wpAny_lookBehind hoD (by rw [hdD]; exact pastItsLine_dict (Nat.le_trans hcD (by rw [List.length_cons]; omega))) ?_)
  exact wpAny_pure (h _ ⟨(hs2.2 _ (Ne.symm I.ne)).trans I.obj, hn2, I.ne⟩ hs2)

/-- C(..): the dict at the heap's end, the instance behind it; then its __init__ -/
theorem make_map {R : Result → Shared → Prop} {vs : List Value} {kw : List (Str × Value)} (X : K.In s.heap) (hm : PySem.W.makesIn K C = true)
    (hi : PySem.W.findIn K (.ref C) "__init__" = some (some (.ref f))) (hf : PySem.W.typeIn K (.ref f) = some (.type "function"))
    (h : codeAny (model prog w) (A.under (.builtin "type.__call__" ⟨.ref C :: vs, kw⟩)) (.call (.ref f) ⟨.ref (s.heap.objs.size + 1) :: vs, kw⟩) (PySem.W.InitBack (s.heap.objs.size + 1) R)
      { s with heap := (s.heap.push PySem.W.emptyDict).push (PySem.W.instObj C s.heap.objs.size) }) :
    codeAny (model prog w) A (.call (.ref C) ⟨vs, kw⟩) R s := by
  obtain ⟨hh, g, d, t, os⟩ := s
  exact PySem.W.make_core (PySem.W.makes_of X hm) (PySem.W.looks_findIn X hi) (fun self => PySem.W.bind_fn X self hf) (.inl rfl) h
end

/-! ### the attributes as a list of pairs -/
def putF (f : Str) (v : V) : List (Str × V) → List (Str × V)
  | [] => [(f, v)]
  | (g, x) :: r => if g = f then (g, v) :: r else (g, x) :: putF f v r
theorem lookup_putF (f g : Str) (v : V) : ∀ fs : List (Str × V), (putF f v fs).lookup g = if g = f then some v else fs.lookup g
  | [] => by
    show List.lookup g [(f, v)] = _
    by_cases h : g = f
    · have hb : (g == f) = true := beq_iff_eq.mpr h
      simp only [List.lookup, hb, if_pos h]
    · have hb : (g == f) = false := beq_eq_false_iff_ne.mpr h
      simp only [List.lookup, hb, if_neg h]
  | (k, x) :: r => by
    have ih := lookup_putF f g v r
    rw [show putF f v ((k, x) :: r) = (if k = f then (k, v) :: r else (k, x) :: putF f v r) from rfl]
    by_cases hk : k = f
    · rw [if_pos hk]
      by_cases h : g = k
      · have hb : (g == k) = true := beq_iff_eq.mpr h
        simp only [List.lookup, hb, if_pos (h.trans hk)]
      · have hb : (g == k) = false := beq_eq_false_iff_ne.mpr h
        simp only [List.lookup, hb, if_neg (fun e : g = f => h (e.trans hk.symm))]
    · rw [if_neg hk]
      by_cases h : g = k
      · have hb : (g == k) = true := beq_iff_eq.mpr h
        simp only [List.lookup, hb, if_neg (fun e : g = f => hk (h.symm.trans e))]
      · have hb : (g == k) = false := beq_eq_false_iff_ne.mpr h
        simp only [List.lookup, hb]
        exact ih
theorem keys_putF (f : Str) (v : V) : ∀ fs : List (Str × V), f ∈ (putF f v fs).map (·.1) ∧ ∀ g, g ∈ fs.map (·.1) → g ∈ (putF f v fs).map (·.1)
  | [] => ⟨by simp [putF], fun g h => by simp at h⟩
  | (k, x) :: r => by
    obtain ⟨i1, i2⟩ := keys_putF f v r
    rw [show putF f v ((k, x) :: r) = (if k = f then (k, v) :: r else (k, x) :: putF f v r) from rfl]
    by_cases hk : k = f
    · rw [if_pos hk]
      subst hk
      exact ⟨by simp, fun g h => by simpa using h⟩
    · rw [if_neg hk]
      refine ⟨?_, fun g h => ?_⟩
      · rw [List.map_cons]
        exact List.mem_cons_of_mem _ i1
      · rw [List.map_cons] at h ⊢
        rcases List.mem_cons.mp h with e | e
        · exact List.mem_cons.mpr (.inl e)
        · exact List.mem_cons_of_mem _ (i2 g e)
theorem length_putF (f : Str) (v : V) : ∀ fs : List (Str × V), (putF f v fs).length ≤ fs.length + 1
  | [] => by simp [putF]
  | (k, x) :: r => by
    have ih := length_putF f v r
    rw [show putF f v ((k, x) :: r) = (if k = f then (k, v) :: r else (k, x) :: putF f v r) from rfl]
    by_cases hk : k = f
    · rw [if_pos hk, List.length_cons, List.length_cons]; omega
    · rw [if_neg hk, List.length_cons, List.length_cons]; omega

theorem RelO.some_of {v : V} {o : Option Value} (r : RelO (some v) o) : ∃ u, o = some u ∧ RelV v u := by
  cases o with
  | none => exact (show False from r).elim
  | some u => exact ⟨u, rfl, r⟩
theorem RelO.none_of {o : Option Value} (r : RelO none o) : o = none := by
  cases o with
  | none => rfl
  | some u => exact (show False from r).elim
theorem handed_of {v : V} {u : Value} (r : RelV v u) : PySem.W.handedIn u = true := by
  cases v with
  | non => cases (show u = Value.none from r); rfl
  | bl b => cases (show u = Value.bool b from r); rfl
  | int i => obtain ⟨t, e⟩ := (show ∃ t, u = Value.int i t from r); cases e; rfl
  | str x => obtain ⟨t, e⟩ := (show ∃ t, u = Value.str x t from r); cases e; rfl
  | byt b => obtain ⟨t, e⟩ := (show ∃ t, u = Value.bytes b t from r); cases e; rfl
  | flt b => obtain ⟨t, e⟩ := (show ∃ t, u = Value.float b t from r); cases e; rfl
  | ref a => cases (show u = Value.ref a from r); rfl
  | ty n => cases (show u = Value.type n from r); rfl

section
variable {P : Program} {w : World} {H H' : Hp} {h h' : Heap} {a C dx : Addr} {fs fs' : List (Str × V)}
theorem ins_get (hok : HOk P w H h) (e : H a = some (.ins C dx fs)) : ∃ mA, ObjM h a dx C mA ∧ (∀ f, RelO (fs.lookup f) (mA f)) ∧ PySem.Within mA (fs.map (·.1)) ∧ fs.length ≤ 1000 ∧ H dx = some (.own a) := by
  obtain ⟨d, z, ne, ob, mA, n, r, q⟩ := (show ObjOk P w H h a (.ins C dx fs) from hok a _ e)
  exact ⟨mA, ⟨ob, n, ne⟩, r, q, z, d⟩
end

/-! ### what of the text a class must have -/
structure Cls (K : PySem.W.Frag) (C : Addr) : Prop where
  pg : PySem.W.plainGet K C Str.empty = true
  hd : PySem.W.hasDictIn K C = true
  po : PySem.W.plainOver K C = true
  sa : PySem.W.findIn K (.ref C) "__setattr__" = some (some (.builtin "object.__setattr__"))
theorem Cls.get {K : PySem.W.Frag} {C : Addr} (c : Cls K C) (f : Str) : PySem.W.plainGet K C f = true := c.pg
/-- no class of it has the name -/
def NoAttr (K : PySem.W.Frag) (C : Addr) (f : Str) : Prop := PySem.W.findIn K (.ref C) f = some none
theorem NoAttr.taker {K : PySem.W.Frag} {C : Addr} {f : Str} (n : NoAttr K C f) : PySem.W.takerIn K C f = some none := by
  unfold PySem.W.takerIn
  rw [show PySem.W.findIn K (.ref C) f = some none from n]
  rfl
/-- a method: a plain def of the class or of one above it -/
structure Meth (K : PySem.W.Frag) (C : Addr) (m : Str) (f : Addr) : Prop where
  at_ : PySem.W.findIn K (.ref C) m = some (some (.ref f))
  fn : PySem.W.isFn K (.ref f) = true
  kp : PySem.W.keepIn K (.ref f) = true

section
variable {X : Cx} {pins : List (Addr × Obj)} {σ : St} {H : Hp} {s : Shared} {a C dx : Addr} {fs : List (Str × V)} {f : Str} {v : V} {A : Around} {E : Value → Shared → Prop}

theorem getattr_ok {b : Bool} {Q : Value → Shared → Prop} (I : Inv X pins σ H s) (e : H a = some (.ins C dx fs)) (c : Cls X.K C) (n : NoAttr X.K C f) (l : fs.lookup f = some v)
    (h : ∀ u s', Inv X pins σ H s' → RelV v u → Q u s') : wpAny (model X.prog X.w) A (getAttr (.ref a) f b) Q E s := by
  obtain ⟨mA, O, r, _, _, _⟩ := ins_get I.hok e
  obtain ⟨u, hu, ru⟩ := RelO.some_of (v := v) (o := mA f) (by rw [← l]; exact r f)
  exact get_map I.kIn O (c.get f) c.hd n hu (handed_of ru) (h u _ (I.tok _) ru)

theorem getmeth_ok {m : Str} {g : Addr} {pl : Sem Bool} {Q : Value × List Value → Shared → Prop} (I : Inv X pins σ H s) (e : H a = some (.ins C dx fs)) (c : Cls X.K C) (k : Meth X.K C m g) (l : fs.lookup m = none)
    (h : Q (.ref g, [.ref a]) s) : wpAny (model X.prog X.w) A (getMethod (.ref a) m pl) Q E s := by
  obtain ⟨mA, O, r, _, _, _⟩ := ins_get I.hok e
  have hn : mA m = none := RelO.none_of (by rw [← l]; exact r m)
  exact get_meth I.kIn O (c.get m) k.at_ k.fn hn h

theorem setattr_ok {y : V} {u : Value} {Q : Unit → Shared → Prop} (I : Inv X pins σ H s) (e : H a = some (.ins C dx fs)) (c : Cls X.K C) (n : NoAttr X.K C f) (hl : fs.length < 1000) (ry : RelV y u)
    (h : ∀ s', Inv X pins σ (upd H a (.ins C dx (putF f y fs))) s' → Q () s') : wpAny (model X.prog X.w) A (setAttr (.ref a) f u) Q E s := by
  obtain ⟨mA, O, r, wi, _, ho⟩ := ins_get I.hok e
  have hz : (fs.map (·.1)).length ≤ sizeLine := by rw [List.length_map, sizeLine_eq]; omega
  refine set_map I.kIn O c.sa c.po n.taker c.hd wi hz fun h' O' sb => h _ ?_
  have hd : ∃ o, h'.get? dx = some o := let ⟨o, _, _, e', _⟩ := O'.ns; ⟨o, e'⟩
  refine I.write (x := a) (e := dx) (by rw [e]; exact True.intro) (.inr ho) (fun b q hb z => (sb.2 b hb).trans z) hd ?_
  refine ⟨by rw [upd_ne O.ne]; exact ho, ?_, O.ne, O'.obj, _, O'.ns, fun g => ?_, fun g hg => ?_⟩
  · have := length_putF f y fs; omega
  · show RelO ((putF f y fs).lookup g) (if g = f then some u else mA g)
    rw [lookup_putF]
    by_cases q : g = f
    · rw [if_pos q, if_pos q]; exact ry
    · rw [if_neg q, if_neg q]; exact r g
  · by_cases q : g = f
    · rw [q]; exact (keys_putF f y fs).1
    · refine (keys_putF f y fs).2 g (wi g fun z => hg ?_)
      show (if g = f then some u else mA g) = none
      rw [if_neg q]; exact z

/-- a new instance, tracked, without attributes -/
theorem Inv.made (I : Inv X pins σ H s) : Inv X pins σ (upd (upd H s.heap.objs.size (.own (s.heap.objs.size + 1))) (s.heap.objs.size + 1) (.ins C s.heap.objs.size []))
    { s with heap := (s.heap.push PySem.W.emptyDict).push (PySem.W.instObj C s.heap.objs.size) } := by
  have e1 : (s.heap.push PySem.W.emptyDict).get? s.heap.objs.size = some PySem.W.emptyDict := Heap.get?_push_size s.heap rfl
  have e2 : ((s.heap.push PySem.W.emptyDict).push (PySem.W.instObj C s.heap.objs.size)).get? (s.heap.objs.size + 1) = some (PySem.W.instObj C s.heap.objs.size) := by
    have := Heap.get?_push_size (s.heap.push PySem.W.emptyDict) (o := PySem.W.instObj C s.heap.objs.size) rfl
    rwa [Heap.size_push] at this
  have e3 : (s.heap.push PySem.W.emptyDict).Ns s.heap.objs.size (fun _ => none) := ⟨PySem.W.emptyDict, #[], _, e1, rfl, (fun e he => absurd he (by simp)), fun _ => rfl⟩
  have I1 := I.laid (a := s.heap.objs.size) (o := .own (s.heap.objs.size + 1)) (h' := s.heap.push PySem.W.emptyDict) (t' := s.toks) (fun b u q => Heap.get?_push_of_some _ q) (Nat.le_refl _) ⟨_, e1⟩
  refine I1.laid (a := s.heap.objs.size + 1) (o := .ins C s.heap.objs.size []) (t' := s.toks) (fun b u q => Heap.get?_push_of_some _ q) (Nat.le_of_eq (Heap.size_push _ _)) ?_
  have ne : s.heap.objs.size ≠ s.heap.objs.size + 1 := Nat.ne_of_lt (Nat.lt_succ_self _)
  refine ⟨by rw [upd_ne ne, upd_same], Nat.zero_le _, ne, e2, fun _ => none, (Heap.Ns1.of_empty e3).at fun o q => Heap.get?_push_of_some _ q, fun _ => True.intro, fun y hy => absurd rfl hy⟩

/-- e.f where nothing but the object is asked: through attributeBase (super) and the last hold -/
theorem attr_of {prog : Program} {w : World} {env : Env} {e : Expr} {f : Str} {pos : Pos} {s : Shared} {Q : Value → Shared → Prop} (hb : attributeBase e f env (eval e env) = eval e env)
    (h : wpAny (model prog w) A (eval e env) (fun o s₁ => wpAny (model prog w) A (getAttr o f true) Q E s₁) E s) : wpAny (model prog w) A (eval (.Attribute e f pos) env) Q E s :=
  Attribute_any_ h (by rw [arm_eval_Attribute, hb])
end

/-! ### readings and rules -/
/-- e.f, an attribute of the instance -/
def tFld (K : PySem.W.Frag) (ta : TE) (f : Str) : TE := fun σ H Q => ta σ H fun x H1 => ∃ a C dx fs v, x = .ref a ∧ H1 a = some (.ins C dx fs) ∧ Cls K C ∧ NoAttr K C f ∧ fs.lookup f = some v ∧ Q v H1
/-- e.f = value -/
def sFld (K : PySem.W.Frag) (ta tv : TE) (f : Str) : TS := fun D σ H => tv σ H fun y H1 => ta σ H1 fun x H2 => ∃ a C dx fs, x = .ref a ∧ H2 a = some (.ins C dx fs) ∧ Cls K C ∧ NoAttr K C f ∧ fs.length < 1000 ∧
  D.nx σ (upd H2 a (.ins C dx (putF f y fs)))
section
variable {X : Cx} {o e value : Expr} {f : Str} {pos pos' tpos : Pos} {ta tv : TE}
theorem pe_fld (he : PE X e ta) (hb : attributeBase e f X.env (eval e X.env) = eval e X.env) : PE X (.Attribute e f pos) (tFld X.K ta f) := by
  intro pins s σ H Q I h
  refine attr_of hb (thn (he pins s σ H _ I h) fun u s1 ⟨x, H1, I1, rx, a, C, dx, fs, v, ex, ea, c, n, l, q⟩ => ?_)
  subst ex
  obtain rfl : u = Value.ref a := rx
  exact getattr_ok I1 ea c n l fun u' s2 I2 ru => ⟨v, H1, I2, ru, q⟩
theorem ps_fld (ha : PE X o ta) (hv : PE X value tv) (hs : swapsWith value (some (.Attribute o f pos')) pos.line X.env = pure false) : PS X (.Assign [.Attribute o f pos'] value pos) (sFld X.K ta tv f) := by
  intro pins s σ H D I h
  refine plainObj_wpAny_Assign_Attribute (thn (hv pins s σ H _ I h) fun u s1 ⟨y, H1, I1, ry, q⟩ => thn (ha pins s1 σ H1 _ I1 q) fun ov s2 ⟨x, H2, I2, rx, a, C, dx, fs, ex, ea, c, n, l, q2⟩ => ?_) hs
  subst ex
  obtain rfl : ov = Value.ref a := rx
  exact setattr_ok I2 ea c n l ry fun s3 I3 => ⟨σ, _, I3, q2⟩
end

/-! ### isinstance -/
section
variable {X : Cx} {pins : List (Addr × Obj)} {σ : St} {H : Hp} {s : Shared} {A : Around} {E : Value → Shared → Prop} {Q : Value → Shared → Prop} {c : Value} {b : Bool}
end
end L2

namespace L2
open PySem PySem.Spec PyProof.Rows

/-! ### room -/
structure Room (k : Nat) (A : Around) : Prop where
  hd : A.handled = none
  dp : A.depth + 3 * k + 5 < recursionLimit
  un : A.units + 16 * k + 200 < cLine
theorem Room.mono {j k : Nat} {A : Around} (r : Room k A) (h : j ≤ k) : Room j A := ⟨r.hd, by have := r.dp; omega, by have := r.un; omega⟩
theorem Room.deeper {k : Nat} {A : Around} (r : Room (k + 1) A) (env : Env) : Room k (A.deeper env) :=
  ⟨r.hd, by have := r.dp; show A.depth + 1 + 3 * k + 5 < _; omega, by have := r.un; show A.units + 3 + 16 * k + 200 < _; omega⟩
theorem make_depth {A : Around} {C : Addr} {us : List Value} {kw : List (Str × Value)} : (A.under (.builtin "type.__call__" ⟨.ref C :: us, kw⟩)).depth = A.depth + 1 := by
  first | rfl | simp [Around.under, Code.weight, Code.isCreation, Code.isGuard, Code.isCaller, Code.frames, Code.isFrame, guardIds]
theorem make_units {A : Around} {C : Addr} {us : List Value} {kw : List (Str × Value)} : (A.under (.builtin "type.__call__" ⟨.ref C :: us, kw⟩)).units = A.units + 1 := by
  first | rfl | simp [Around.under, Code.cUnits, Code.frames, Code.isFrame]
theorem Room.make {k : Nat} {A : Around} (r : Room (k + 1) A) (C : Addr) (us : List Value) (kw : List (Str × Value)) : Room k (A.under (.builtin "type.__call__" ⟨.ref C :: us, kw⟩)) :=
  ⟨r.hd, by have := r.dp; rw [make_depth]; omega, by have := r.un; rw [make_units]; omega⟩
theorem Room.depth {k : Nat} {A : Around} (r : Room k A) : A.depth < recursionLimit := by have := r.dp; omega
/-! ### argument lists and displays -/
def tNil : TA := fun _ H Q => Q [] H
def tCons (ta : TE) (tr : TA) : TA := fun σ H Q => ta σ H fun x H1 => tr σ H1 fun xs H2 => Q (x :: xs) H2
section
variable {X : Cx} {e : Expr} {es : List Expr} {te : TE} {t : TA} {pos : Pos}
theorem pa_nil : PA X [] tNil := fun _ _ _ _ H Q I h => Calls.spliced_nil ⟨[], H, I, .nil, h⟩
theorem pa_cons (ha : PE X e te) (hr : PA X es t) (hs : starEach (e :: es) X.env = (false, eval e X.env) :: starEach es X.env := by rfl) : PA X (e :: es) (tCons te t) := by
  intro pos pins s σ H Q I h
  rw [hs]
  show wpAny _ _ (spliced ((false, eval e X.env) :: backTo pos (starEach es X.env))) _ _ s
  refine Calls.spliced_cons (thn (ha pins s σ H _ I h) fun u s1 ⟨x, H1, I1, r1, q1⟩ => ?_)
  exact thn (hr pos pins s1 σ H1 _ I1 q1) fun us s2 ⟨xs, H2, I2, r2, q2⟩ => ⟨x :: xs, H2, I2, .cons r1 r2, q2⟩

/-- a tuple, a list of written items -/
def tTup (t : TA) : TE := fun σ H Q => t σ H fun xs H1 => xs.length ≤ sizeLine ∧ ∀ p, H1 p = none → Q (.ref p) (upd H1 p (.tup xs))
def tLst (t : TA) : TE := fun σ H Q => t σ H fun xs H1 => xs.length ≤ sizeLine ∧ ∀ p, H1 p = none → Q (.ref p) (upd H1 p (.lst xs))
theorem pe_tup {x1} (h : PA X es t) : PE X (.Tuple es x1 pos) (tTup t) := by
  intro pins s σ H Q I hq
  refine wpAny_Tuple_spliced (thn (h pos pins s σ H _ I hq) fun us s1 ⟨xs, H1, I1, r, z, q⟩ => ⟨by rw [← r.length]; exact z, ?_⟩)
  have hf : H1 s1.heap.objs.size = none := I1.hok.fresh (Nat.le_refl _)
  refine ⟨.ref s1.heap.objs.size, upd H1 s1.heap.objs.size (.tup xs), I1.laid (t' := s1.toks) (fun b u e => Heap.get?_push_of_some _ e) (Nat.le_refl _) ?_, rfl, q _ hf⟩
  exact ⟨z, us, r, ⟨_, Heap.get?_push_size _ rfl, rfl, _, rfl⟩⟩
theorem pe_lst (h : PA X es t) : PE X (.List es pos) (tLst t) := by
  intro pins s σ H Q I hq
  refine wpAny_List_spliced (thn (h pos pins s σ H _ I hq) fun us s1 ⟨xs, H1, I1, r, z, q⟩ => ⟨by rw [← r.length]; exact z, ?_⟩)
  have hf : H1 s1.heap.objs.size = none := I1.hok.fresh (Nat.le_refl _)
  refine ⟨.ref s1.heap.objs.size, upd H1 s1.heap.objs.size (.lst xs), I1.laid (t' := s1.toks) (fun b u e => Heap.get?_push_of_some _ e) (Nat.le_refl _) ?_, rfl, q _ hf⟩
  exact ⟨z, us, 0, r, Heap.get?_push_size _ rfl⟩
end

/-! ### what a def promises -/
/-- a def's promise: the bound arguments in the parameters' order, the heap, the wanted end, the wanted exception -/
abbrev Sp := List V → Hp → VK → XK → Prop
/-- how an exception lies behind a call (file 08 gives it): the callers' frames, abstract heap and state ahead of the call, the wish, the exception, the state -/
abbrev CXT := List Env → Hp → Shared → XK → Value → Shared → Prop

/-- the state at a call -/
structure Env0 (P : Program) (w : World) (K : PySem.W.Frag) (mg : Str → Option Value) (base : Heap) (A : Around) (outer : List Env) (s : Shared) (H : Hp) : Prop where
  frames : A.frames = some outer
  mod : Mod K mg base
  bs : ∀ b o, base.get? b = some o → s.heap.get? b = some o ∧ H b = none
  bsz : base.objs.size ≤ s.heap.objs.size
  funs : s.heap.FunFrames base outer
  frf : ∀ b ∈ frs outer, H b = none
  hok : HOk P w H s.heap
  bare : AllBare s.gens
/-- a call's end -/
def CE (outer : List Env) (P : Program) (w : World) (H : Hp) (s : Shared) (Q : VK) (u : Value) (s' : Shared) : Prop :=
  ∃ v H', s'.os = s.os ∧ AllBare s'.gens ∧ Un (frs outer) [] H H' s.heap s'.heap ∧ HOk P w H' s'.heap ∧ RelV v u ∧ Q v H'
def CR (CX : CXT) (outer : List Env) (P : Program) (w : World) (H : Hp) (s : Shared) (Q : VK) (E : XK) (r : Result) (s' : Shared) : Prop :=
  match r with
  | .ok (.ret u) => CE outer P w H s Q u s'
  | .ok _ => False
  | .error e => CX outer H s E e s'
structure FnOk (P : Program) (w : World) (K : PySem.W.Frag) (mg : Str → Option Value) (base : Heap) (CX : CXT) (k : Nat) (f : Addr) (fd : FuncData) (ps : List Str) (sp : Sp) : Prop where
  len : ∀ vs H Q E, sp vs H Q E → vs.length = ps.length
  run : ∀ (A : Around) (outer : List Env) (s : Shared) (H : Hp) (args : Args) (us : List Value) (vs : List V) (Q : VK) (E : XK), Room k A → Env0 P w K mg base A outer s H → BindsTo s fd args (ps.zip us) → Vals vs us → sp vs H Q E →
    codeAny (model P w) A (.call (.ref f) args) (CR CX outer P w H s Q E) s
theorem FnOk.mono {P : Program} {w : World} {K : PySem.W.Frag} {mg : Str → Option Value} {base : Heap} {CX : CXT} {j k : Nat} {f : Addr} {fd : FuncData} {ps : List Str} {sp : Sp} (F : FnOk P w K mg base CX j f fd ps sp) (h : j ≤ k) :
    FnOk P w K mg base CX k f fd ps sp := ⟨F.len, fun A outer s H args us vs Q E hr => F.run A outer s H args us vs Q E (hr.mono h)⟩
theorem Env0.make {P : Program} {w : World} {K : PySem.W.Frag} {mg : Str → Option Value} {base : Heap} {A : Around} {outer : List Env} {s : Shared} {H : Hp} (e : Env0 P w K mg base A outer s H) (C : Addr) (us : List Value) (kw : List (Str × Value)) :
    Env0 P w K mg base (A.under (.builtin "type.__call__" ⟨.ref C :: us, kw⟩)) outer s H := ⟨by first | exact e.frames | (simpa [Around.under, Code.envs, Code.isFrame, pushEnvs] using e.frames), e.mod, e.bs, e.bsz, e.funs, e.frf, e.hok, e.bare⟩
section
variable {X : Cx} {pins : List (Addr × Obj)} {σ : St} {H : Hp} {s s' : Shared}
/-- from a body: what a callee wants -/
theorem Inv.env0 (I : Inv X pins σ H s) : Env0 X.prog X.w X.K X.mg X.base X.A X.stack s H :=
  ⟨I.ok.frames, I.ok.mod, I.bs, Nat.le_trans I.ok.bsz I.sz, I.stack, I.stkFree, I.hok, I.bare⟩
/-- behind a call -/
theorem Inv.after {Q : VK} {u : Value} (I : Inv X pins σ H s) (h : CE X.stack X.prog X.w H s Q u s') : EP X pins σ Q u s' := by
  obtain ⟨v, H', os, bare, un, hok, r, q⟩ := h
  obtain ⟨hh, g, d, t, os'⟩ := s'
  obtain rfl : os' = s.os := os
  exact ⟨v, H', I.call (h' := hh) (g' := g) (d' := d) (t' := t) (ch := []) un hok bare (fun b z => absurd z (by simp)), r, q⟩
end

/-! ### calls -/
/-- f(..): the written arguments, then the defaults dvs; E: what is wanted of an exception -/
def tCall (sp : Sp) (dvs : List V) (E : XK) (t : TA) : TE := fun σ H Q => t σ H fun vs H1 => sp (vs ++ dvs) H1 Q E
/-- o.m(..) of an instance of the class at C -/
def tMeth (C : Addr) (m : Str) (sp : Sp) (dvs : List V) (E : XK) (ta : TE) (t : TA) : TE := fun σ H Q => ta σ H fun x H1 => ∃ a dx fs, x = .ref a ∧ H1 a = some (.ins C dx fs) ∧ fs.lookup m = none ∧
  t σ H1 fun vs H2 => sp (x :: (vs ++ dvs)) H2 Q E
/-- C(..): a new instance and its dict, then __init__ -/
def tMake (C : Addr) (sp : Sp) (dvs : List V) (E : XK) (t : TA) : TE := fun σ H Q => t σ H fun vs H1 => ∀ x dx, H1 x = none → H1 dx = none → dx ≠ x →
  sp (.ref x :: (vs ++ dvs)) (upd (upd H1 dx (.own x)) x (.ins C dx [])) (fun v H2 => v = .non ∧ Q (.ref x) H2) E

/-- how the parameters are bound: us the positional arguments, kw the keywords' values by name, ds the defaults that fill up -/
def Binds (K : PySem.W.Frag) (fd : FuncData) (ps : List Str) (ds : List Value) : Prop :=
  ∀ (s : Shared) (us : List Value), K.In s.heap → (us ++ ds).length = ps.length → BindsTo s fd ⟨us, []⟩ (ps.zip (us ++ ds))
/-- every parameter is given -/
theorem Binds.all {K : PySem.W.Frag} {fd : FuncData} {ps : List Str} (h : ∀ us : List Value, us.length = ps.length → bindArgs fd ⟨us, []⟩ = pure (ps.zip us)) : Binds K fd ps [] := fun s us _ hl => by
  rw [List.append_nil] at hl ⊢
  exact .of_eq (h us hl)

/-- an exception of a callee reaches what this body wants of exceptions -/
def Passes (CX : CXT) (X : Cx) (E : XK) : Prop := ∀ (pins : List (Addr × Obj)) (σ : St) (H : Hp) (s : Shared) (e : Value) (s' : Shared), Inv X pins σ H s → CX X.stack H s E e s' → X.xe e s'

section
variable {X : Cx} {CX : CXT} {k : Nat} {f C : Addr} {fd : FuncData} {ps : List Str} {sp : Sp} {dvs : List V} {ds : List Value} {E : XK} {x m : Str} {p pos apos : Pos} {e o : Expr} {es : List Expr} {ta : TE} {t : TA}

/-- the callee runs -/
theorem run_fn {pins : List (Addr × Obj)} {σ : St} {H : Hp} {s : Shared} {Q : VK} {us : List Value} {vs : List V} (F : FnOk X.prog X.w X.K X.mg X.base CX k f fd ps sp) (hr : Room k X.A) (hb : Binds X.K fd ps ds) (hd : Vals dvs ds) (hx : Passes CX X E)
    (I : Inv X pins σ H s) (r : Vals vs us) (h : sp (vs ++ dvs) H Q E) : wpAny (model X.prog X.w) X.A (call (.ref f) us) (EP X pins σ Q) X.xe s := by
  have r2 : Vals (vs ++ dvs) (us ++ ds) := r.append hd
  have hl : (us ++ ds).length = ps.length := by rw [← r2.length]; exact F.len _ _ _ _ h
  refine wpAny_call (codeAny_mono (F.run X.A X.stack s H ⟨us, []⟩ (us ++ ds) (vs ++ dvs) Q E hr I.env0 (hb s us I.kIn hl) r2 h) fun r s' hq => ?_)
  cases r with
  | error e => exact hx pins σ H s e s' I hq
  | ok fl =>
    cases fl with
    | ret u => exact I.after hq
    | next => exact False.elim hq
    | brk => exact False.elim hq
    | cont => exact False.elim hq

theorem pe_call (F : FnOk X.prog X.w X.K X.mg X.base CX k f fd ps sp) (hr : Room k X.A) (hg : Gl X x) (hm : X.mg x = some (.ref f)) (hk : PySem.W.keepIn X.K (.ref f) = true) (hb : Binds X.K fd ps ds) (hd : Vals dvs ds) (hx : Passes CX X E)
    (ha : PA X (e :: es) t) (hdb : (x == ("__debug__" : Str)) = false := by decide) (he : starEach (e :: es) X.env = (false, eval e X.env) :: starEach es X.env := by rfl) (hpl : (backTo pos (starEach es X.env)).any (·.1) = false := by rfl) :
    PE X (.Call (.Name x p) (e :: es) [] pos) (tCall sp dvs E t) := by
  intro pins s σ H Q I h
  refine wpAny_Call_Name_kw (ld_glob I hg hm ?_ hdb)
  refine PySem.W.callWith_K (h₀ := X.base) I.ok.mod.kin hk (thn (ha pos pins s σ H _ I h) fun us s1 ⟨vs, H1, I1, r, q⟩ => ⟨I1.kIn, ?_⟩) he hpl
  exact run_fn F hr hb hd hx I1 r q
/-- o.m(e, ..) -/
theorem pe_meth {pl : Sem Bool} (he : PE X o ta) (c : Cls X.K C) (hm : Meth X.K C m f) (F : FnOk X.prog X.w X.K X.mg X.base CX k f fd ps sp) (hr : Room k X.A) (hb : Binds X.K fd ps ds) (hd : Vals dvs ds) (hx : Passes CX X E) (ha : PA X (e :: es) t)
    (hst : starEach (e :: es) X.env = (false, eval e X.env) :: starEach es X.env := by rfl) (hpl : (backTo pos (starEach es X.env)).any (·.1) = false := by rfl)
    (ht : eval (.Call (.Attribute o m apos) (e :: es) [] pos) X.env = (do
      let ov ← eval o X.env
      standAt apos.atName
      let (f, first) ← holding [ov] (getMethod ov m pl)
      callWith pos f first (backTo pos (starEach (e :: es) X.env)) (backToKw pos (keywordEach [] X.env))) := by rfl) :
    PE X (.Call (.Attribute o m apos) (e :: es) [] pos) (tMeth C m sp dvs E ta t) := by
  intro pins s σ H Q I h
  refine PySem.W.methodCall_KW (pl := pl) (thn (he pins s σ H _ I h) fun u s1 ⟨x, H1, I1, rx, a, dx, fs, ex, ea, l, q⟩ => ?_) ht
  subst ex
  obtain rfl : u = Value.ref a := rx
  refine getmeth_ok I1 ea c hm l ?_
  refine PySem.W.callWith_K (first := [.ref a]) (h₀ := X.base) I.ok.mod.kin hm.kp (thn (ha pos pins s1 σ H1 _ I1 q) fun us s2 ⟨vs, H2, I2, r, q2⟩ => ⟨I2.kIn, ?_⟩) hst hpl
  exact run_fn (us := .ref a :: us) (vs := .ref a :: vs) F hr hb hd hx I2 (.cons rfl r) q2
/-- o.m() -/
theorem pe_meth0 {pl : Sem Bool} (he : PE X o ta) (c : Cls X.K C) (hm : Meth X.K C m f) (F : FnOk X.prog X.w X.K X.mg X.base CX k f fd ps sp) (hr : Room k X.A) (hb : Binds X.K fd ps ds) (hd : Vals dvs ds) (hx : Passes CX X E)
    (ht : eval (.Call (.Attribute o m apos) [] [] pos) X.env = (do
      let ov ← eval o X.env
      standAt apos.atName
      let (f, first) ← holding [ov] (getMethod ov m pl)
      callWith pos f first (backTo pos (starEach [] X.env)) (backToKw pos (keywordEach [] X.env))) := by rfl) :
    PE X (.Call (.Attribute o m apos) [] [] pos) (tMeth C m sp dvs E ta tNil) := by
  intro pins s σ H Q I h
  refine PySem.W.methodCall_KW (pl := pl) (thn (he pins s σ H _ I h) fun u s1 ⟨x, H1, I1, rx, a, dx, fs, ex, ea, l, q⟩ => ?_) ht
  subst ex
  obtain rfl : u = Value.ref a := rx
  refine getmeth_ok I1 ea c hm l ?_
  exact PySem.W.callWith_K0 (first := [.ref a]) I1.kIn hm.kp (run_fn (us := [.ref a]) (vs := [.ref a]) F hr hb hd hx I1 (.cons rfl .nil) q)

/-- what a class must have to be made -/
structure Mk (K : PySem.W.Frag) (C f : Addr) : Prop where
  makes : PySem.W.makesIn K C = true
  init : PySem.W.findIn K (.ref C) "__init__" = some (some (.ref f))
  fn : PySem.W.isFn K (.ref f) = true
  kp : PySem.W.keepIn K (.ref C) = true

theorem run_make {pins : List (Addr × Obj)} {σ : St} {H : Hp} {s : Shared} {Q : VK} {us : List Value} {vs : List V} (M : Mk X.K C f) (F : FnOk X.prog X.w X.K X.mg X.base CX k f fd ps sp) (hr : Room (k + 1) X.A) (hb : Binds X.K fd ps ds) (hd : Vals dvs ds)
    (hx : Passes CX X E) (I : Inv X pins σ H s) (r : Vals vs us)
    (h : ∀ x dx, H x = none → H dx = none → dx ≠ x → sp (.ref x :: (vs ++ dvs)) (upd (upd H dx (.own x)) x (.ins C dx [])) (fun v H2 => v = .non ∧ Q (.ref x) H2) E) :
    wpAny (model X.prog X.w) X.A (call (.ref C) us) (EP X pins σ Q) X.xe s := by
  have hq := h (s.heap.objs.size + 1) s.heap.objs.size (I.hok.fresh (Nat.le_succ _)) (I.hok.fresh (Nat.le_refl _)) (Nat.ne_of_lt (Nat.lt_succ_self _))
  have I2 := Inv.made (C := C) I
  have r2 : Vals (V.ref (s.heap.objs.size + 1) :: (vs ++ dvs)) (Value.ref (s.heap.objs.size + 1) :: (us ++ ds)) := .cons rfl (r.append hd)
  have hl : (Value.ref (s.heap.objs.size + 1) :: us ++ ds).length = ps.length := by
    have e := r2.length
    rw [F.len _ _ _ _ hq] at e
    exact e.symm
  refine wpAny_call (make_map (f := f) I.kIn M.makes M.init (beq_iff_eq.mp M.fn) (codeAny_mono (F.run _ X.stack _ _ ⟨Value.ref (s.heap.objs.size + 1) :: us, []⟩ (Value.ref (s.heap.objs.size + 1) :: (us ++ ds)) _ _ E (hr.make C us [])
    (I2.env0.make C us []) (hb _ (Value.ref (s.heap.objs.size + 1) :: us) I2.kIn hl) r2 hq) fun r s' hq' => ?_))
  cases r with
  | error e => exact hx pins σ _ _ e s' I2 hq'
  | ok fl =>
    cases fl with
    | ret u =>
      obtain ⟨v, H', I3, rv, ev, q3⟩ := I2.after hq'
      subst ev
      exact ⟨rv, ⟨V.ref (s.heap.objs.size + 1), H', I3, rfl, q3⟩⟩
    | next => exact False.elim hq'
    | brk => exact False.elim hq'
    | cont => exact False.elim hq'
theorem pe_make0 (M : Mk X.K C f) (F : FnOk X.prog X.w X.K X.mg X.base CX k f fd ps sp) (hr : Room (k + 1) X.A) (hg : Gl X x) (hm : X.mg x = some (.ref C)) (hb : Binds X.K fd ps ds) (hd : Vals dvs ds) (hx : Passes CX X E)
    (hdb : (x == ("__debug__" : Str)) = false := by decide) : PE X (.Call (.Name x p) [] [] pos) (tMake C sp dvs E tNil) := by
  intro pins s σ H Q I h
  refine wpAny_Call_Name_kw (ld_glob I hg hm ?_ hdb)
  exact PySem.W.callWith_K0 I.kIn M.kp (run_make (us := []) M F hr hb hd hx I .nil h)
end

/-! ### keywords -/
section
variable {X : Cx} {CX : CXT} {k : Nat} {f C : Addr} {fd : FuncData} {ps ks : List Str} {sp : Sp} {E : XK} {x m : Str} {p pos apos kpos : Pos} {e o : Expr} {es : List Expr} {kws : List Keyword} {te ta : TE} {t tk : TA} {nm : Option Str}
variable {g : List Value → List Value → List Value} {gV : List V → List V → List V}
end

/-! ### a def's body keeps its promise -/
/-- names: the parameters first -/
structure FnScope (N P : List Str) (sc : Scope) : Prop where
  kind : sc.kind = .function
  co : sc.isCoroutine = false
  gen : sc.isGenerator = false
  nd : N.Nodup
  pre : N.take P.length = P
  par : ∀ x ∈ P, sc.names.lookup x = some .local ∨ sc.names.lookup x = some .cell
  nofree : ∀ y ∈ sc.names, y.2 ≠ .free

theorem bindL_out {kindOf : Str → Option NameKind} {x : Str} : ∀ {binds : List (Str × Value)} {m : Str → Option Value}, (∀ v, (x, v) ∉ binds) → bindL kindOf binds m x = m x
  | [], _, _ => rfl
  | (n, v) :: r, m, h => by
    unfold bindL
    rw [bindL_out fun w hw => h w (List.mem_cons_of_mem _ hw)]
    split
    · have : x ≠ n := by rintro rfl; exact h v List.mem_cons_self
      simp [this]
    · rfl
theorem bindC_out {kindOf : Str → Option NameKind} {x : Str} : ∀ {binds : List (Str × Value)} {m : Str → Option Value}, (∀ v, (x, v) ∉ binds) → bindC kindOf binds m x = m x
  | [], _, _ => rfl
  | (n, v) :: r, m, h => by
    unfold bindC
    rw [bindC_out fun w hw => h w (List.mem_cons_of_mem _ hw)]
    split
    · rfl
    · have : x ≠ n := by rintro rfl; exact h v List.mem_cons_self
      simp [this]
theorem bindL_get {kindOf : Str → Option NameKind} {x : Str} {v : Value} : ∀ {P : List Str} {vs : List Value} {i : Nat} {m : Str → Option Value}, P.Nodup → P[i]? = some x → vs[i]? = some v → kindOf x = some .local →
    bindL kindOf (P.zip vs) m x = some v
  | [], _, _, _, _, h, _, _ => by simp at h
  | _ :: _, [], _, _, _, _, h, _ => by simp at h
  | p :: P, w :: vs, 0, m, nd, h1, h2, hk => by
    simp at h1 h2; subst h1; subst h2
    show bindL kindOf ((p, w) :: P.zip vs) m p = _
    unfold bindL
    rw [bindL_out fun v hv => (List.nodup_cons.mp nd).1 (List.of_mem_zip hv).1, if_pos hk]
    simp
  | p :: P, w :: vs, i + 1, m, nd, h1, h2, hk => by
    show bindL kindOf ((p, w) :: P.zip vs) m x = _
    unfold bindL
    exact bindL_get (i := i) (List.nodup_cons.mp nd).2 (by simpa using h1) (by simpa using h2) hk
theorem bindC_get {kindOf : Str → Option NameKind} {x : Str} {v : Value} : ∀ {P : List Str} {vs : List Value} {i : Nat} {m : Str → Option Value}, P.Nodup → P[i]? = some x → vs[i]? = some v → kindOf x ≠ some .local →
    bindC kindOf (P.zip vs) m x = some v
  | [], _, _, _, _, h, _, _ => by simp at h
  | _ :: _, [], _, _, _, _, h, _ => by simp at h
  | p :: P, w :: vs, 0, m, nd, h1, h2, hk => by
    simp at h1 h2; subst h1; subst h2
    show bindC kindOf ((p, w) :: P.zip vs) m p = _
    unfold bindC
    rw [bindC_out fun v hv => (List.nodup_cons.mp nd).1 (List.of_mem_zip hv).1, if_neg hk]
    simp
  | p :: P, w :: vs, i + 1, m, nd, h1, h2, hk => by
    show bindC kindOf ((p, w) :: P.zip vs) m x = _
    unfold bindC
    exact bindC_get (i := i) (List.nodup_cons.mp nd).2 (by simpa using h1) (by simpa using h2) hk

/-- the names' values at the entry -/
def start (N : List Str) (vs : List V) : St := vs.map some ++ List.replicate (N.length - vs.length) none

/-- the context of a def's body, at its entry; an exception leaves the frame, then lies as CX says -/
def cxOf (CX : CXT) (P : Program) (w : World) (K : PySem.W.Frag) (mg : Str → Option Value) (base : Heap) (N : List Str) (qual : Str) (scope : Scope) (f : Addr) (cd : Value) (A : Around) (outer : List Env) (s : Shared) (H : Hp) (E : XK) : Cx where
  prog := P
  w := w
  K := K
  mg := mg
  base := base
  A := A.deeper (envOfC qual scope s.heap.objs.size f cd)
  N := N
  s_0 := s
  H_0 := H
  env := envOfC qual scope s.heap.objs.size f cd
  outer := outer
  stack := envOfC qual scope s.heap.objs.size f cd :: outer
  ex := []
  calm := true
  fn := fun _ => true
  pn := []
  xe := fun e s' => wpAny (model P w) (A.deeper (envOfC qual scope s.heap.objs.size f cd)) (leaving (envOfC qual scope s.heap.objs.size f cd) e) (fun _ s'' => CX outer H s E e s'') (fun e' s'' => CX outer H s E e' s'') s'

theorem cell_has {sc : Scope} {n : Nat} {x : Str} (h : sc.names.lookup x = some .cell) : ∃ c, (cellsFrom n sc.names []).lookup x = some c := by
  have q := PySem.W.cellsFrom_some sc.names n [] (.inl h)
  exact Option.isSome_iff_exists.mp q

theorem inv_start {CX : CXT} {P : Program} {w : World} {K : PySem.W.Frag} {mg : Str → Option Value} {base : Heap} {N ps : List Str} {qual : Str} {scope : Scope} {f : Addr} {cd : Value} {A : Around} {outer : List Env} {s s1 : Shared} {H : Hp} {E : XK} {us : List Value} {vs : List V}
    (S : FnScope N ps scope) (hd : A.handled = none) (e0 : Env0 P w K mg base A outer s H) (hl : vs.length = ps.length) (r : Vals vs us)
    (x : InCallC s s.heap.objs.size (bindL (envOfC qual scope s.heap.objs.size f cd).kindOf (ps.zip us) fun _ => none) (cellsFrom (s.heap.objs.size + 1) scope.names []) (bindC (envOfC qual scope s.heap.objs.size f cd).kindOf (ps.zip us) fun _ => none) s1) :
    Inv (cxOf CX P w K mg base N qual scope f cd A outer s H E) [] (start N vs) H s1 := by
  have hpl : ps.length ≤ N.length := by have := congrArg List.length S.pre; rw [List.length_take] at this; omega
  obtain ⟨h1, tk, rfl, hk⟩ := x.done
  have noA : ∀ b : Addr, b ∉ (cxOf CX P w K mg base N qual scope f cd A outer s H E).ex := fun b z => absurd (show b ∈ ([] : List Addr) from z) (by simp)
  refine ⟨⟨e0.mod, S.kind, rfl, rfl, Nat.le_refl _, fun y z c h1 h2 => ?_, fun y hy => ?_, fun y c _ h => ?_, fun _ => hd, Around.frames_deeper e0.frames, .inr ⟨rfl, rfl⟩, fun b z => absurd z (noA b), e0.bs, e0.bsz, fun b _ _ => noA b, fun b z => absurd z (noA b), e0.funs, e0.frf⟩,
    rfl, e0.bare, Un.kept hk, ⟨_, x.toInCall.ns, fun i y v h1 h2 h3 => ?_⟩, fun y c h => ⟨_, x.cell y c h⟩, e0.hok.fresh (Nat.le_refl _), fun y c h => ?_, fun p hp => absurd (show p ∈ ([] : List (Addr × Obj)) from hp) (by simp), e0.hok.kept hk, ?_⟩
  · exact name_of_addr x.apart (PySem.mem_of_lookup h1) (PySem.mem_of_lookup h2)
  · have hy : scope.names.lookup y = some .cell ∨ scope.names.lookup y = some .free := hy
    rcases hy with hy | hy
    · exact cell_has hy
    · exact absurd rfl (S.nofree _ (PySem.mem_of_lookup hy))
  · exact Nat.le_of_lt (x.above y c (PySem.mem_of_lookup h))
  · have hi : i < vs.length := by
      unfold start at h2
      by_cases hi : i < vs.length
      · exact hi
      · rw [List.getElem?_append_right (by simpa using hi)] at h2
        rw [List.getElem?_replicate] at h2
        split at h2 <;> cases h2
    have ha : vs[i]? = some v := by
      unfold start at h2
      rw [List.getElem?_append_left (by simpa using hi), List.getElem?_map] at h2
      cases e : vs[i]? with
      | none => rw [e] at h2; cases h2
      | some a => rw [e] at h2; cases h2; rfl
    obtain ⟨u, hu, rv⟩ := r.get ha
    have hp : ps[i]? = some y := by
      rw [← S.pre, List.getElem?_take_of_lt (by omega)]; exact h1
    have ndP : ps.Nodup := by rw [← S.pre]; exact S.nd.sublist (List.take_sublist _ _)
    refine ⟨u, rv, ?_⟩
    rcases S.par y (List.mem_of_getElem? hp) with k | k
    · exact .inl ⟨k, bindL_get ndP hp hu k⟩
    · obtain ⟨c, e⟩ := cell_has (n := s.heap.objs.size + 1) k
      refine .inr ⟨.inl k, c, e, ?_⟩
      have q := x.cell y c e
      rw [bindC_get ndP hp hu (by show scope.names.lookup y ≠ _; rw [k]; decide)] at q
      exact q
  · exact e0.hok.fresh (Nat.le_of_lt (x.above y c (PySem.mem_of_lookup h)))
  · unfold start
    show _ = N.length
    rw [List.length_append, List.length_map, List.length_replicate]
    omega

/-- THE RULE: a def (or a method) of the text, by its body. The body's reading t is chosen for each entry; it is run at the parameters' values -/
theorem fn_of {CX : CXT} {P : Program} {w : World} {K : PySem.W.Frag} {mg : Str → Option Value} {base : Heap} {k : Nat} {f : Addr} {name qual : Str} {params : Arguments} {body : List Stmt} {scope : Scope} {dV kV doc pm cdv ct oc : Value} {an od : Option Addr}
    {osl : Array (Option Value)} {N ps : List Str} {sp : Sp} (lk : K.lookup f = some ⟨oc, od, .func (PySem.W.fnOf name qual params body scope dV kV doc pm an cdv ct), osl⟩) (hcd : PySem.W.codeIn K cdv qual = true) (S : FnScope N ps scope)
    (len : ∀ vs H Q E, sp vs H Q E → vs.length = ps.length)
    (hbody : ∀ (A : Around) (outer : List Env) (s : Shared) (H : Hp) (vs : List V) (Q : VK) (E : XK), Room k (A.deeper (envOfC qual scope s.heap.objs.size f cdv)) → sp vs H Q E →
      ∃ t, PSs (cxOf CX P w K mg base N qual scope f cdv A outer s H E) body t ∧ t { nx := fun _ H' => Q .non H', rt := Q } (start N vs) H) :
    FnOk P w K mg base CX (k + 1) f (PySem.W.fnOf name qual params body scope dV kV doc pm an cdv ct) ps sp := by
  refine ⟨len, fun A outer s H args us vs Q E hr e0 hb r hsp => ?_⟩
  have hl := len _ _ _ _ hsp
  have KX : K.In s.heap := e0.mod.kin.keeps fun b o e => (e0.bs b o e).1
  have lim : s.heap.NoLimit := e0.mod.nolimit.keeps fun b o e => (e0.bs b o e).1
  have hkind : ∀ y ∈ ps.zip us, scope.names.lookup y.1 = some .local ∨ (scope.names.lookup y.1 = some .cell ∧ ((cellsFrom (s.heap.objs.size + 1) scope.names []).lookup y.1).isSome = true) := fun ⟨n, v⟩ hy => by
    rcases S.par n (List.of_mem_zip hy).1 with q | q
    · exact .inl q
    · exact .inr ⟨q, PySem.W.cellsFrom_some _ _ _ (.inl q)⟩
  refine codeAny_call_function hr.depth (KX _ _ lk) rfl S.co S.gen rfl (PySem.W.codeRec_of KX hcd) (hb _ _ _ _ ?_)
  refine wpAny_newFunctionEnv_cells S.kind hkind fun env he s1 x => ?_
  subst he
  refine ⟨lim.keeps x.toInCall.keep, codeAny_func ?_⟩
  obtain ⟨t, ht, hq⟩ := hbody A outer s H vs Q E (hr.deeper _) hsp
  have I : Inv (cxOf CX P w K mg base N qual scope f cdv A outer s H E) [] (start N vs) H s1 := inv_start S hr.hd e0 hl r x
  refine wpAny_mono (ht [] s1 (start N vs) H _ I hq) (fun fl s' hs => ?_) fun e s' hs => hs
  have fin : ∀ {σ' : St} {H' : Hp} {v : V} {u : Value}, Inv (cxOf CX P w K mg base N qual scope f cdv A outer s H E) [] σ' H' s' → RelV v u → Q v H' → CE outer P w H s Q u s' :=
    fun {σ' H' v u} J rv q => ⟨v, H', J.os, J.bare, J.base, J.hok, rv, q⟩
  cases fl with
  | ret u =>
    obtain ⟨v, σ', H', J, rv, q⟩ := hs
    exact fin J rv q
  | next =>
    obtain ⟨σ', H', J, q⟩ := hs
    exact fin (v := V.non) (u := Value.none) J rfl q
  | brk =>
    obtain ⟨_, _, _, q⟩ := hs
    exact False.elim q
  | cont =>
    obtain ⟨_, _, _, q⟩ := hs
    exact False.elim q
end L2

namespace L2
open PySem PySem.Spec PyProof.Rows
section
variable {X : Cx} {x : Str} {p pos : Pos} {e : Expr} {es : List Expr} {t : TA} {id T : String} {r : List V → Hp → VK → Prop}

def tCB (r : List V → Hp → VK → Prop) (t : TA) : TE := fun σ H Q => t σ H fun vs H1 => r vs H1 Q
/-- f(e, ..), f a built-in function -/
theorem pe_callB (hc : CallR X (.builtin id) r) (hg : Gl X x) (hm : X.mg x = none) (hv : bootBuiltins x = some (.builtin id)) (ha : PA X (e :: es) t) (hn : x ≠ "__name__" := by decide) (hdb : (x == ("__debug__" : Str)) = false := by decide)
    (he : starEach (e :: es) X.env = (false, eval e X.env) :: starEach es X.env := by rfl) (hpl : (backTo pos (starEach es X.env)).any (·.1) = false := by rfl) : PE X (.Call (.Name x p) (e :: es) [] pos) (tCB r t) := by
  intro pins s σ H Q I h
  refine wpAny_Call_Name_kw (ld_blt I hg hm hv ?_ hn hdb)
  exact PyProof.Rows.callWith_builtin1 (thn (ha pos pins s σ H _ I h) fun us s1 ⟨vs, H1, I1, r1, q1⟩ => hc pins s1 σ H1 vs us Q I1 r1 q1) he hpl
end
end L2

namespace HT
open PySem PyProof.Rows

section
open PySem.SeqAt
open PySem.AutoSeq1 (wpAny_loadPart')
open PySem.MeetsSeq PySem.MeetsSeq2 PySem.MeetsSeq3

end

section
variable {prog : Program} {w : World} {A : Around} {E : Value → Shared → Prop} {s : Shared}

/-! ### t[a:b], not the whole -/
/-- a slice's bound as a place among n (d where it is left out) -/
def sIx (n d : Nat) : Option Int → Nat
  | none => d
  | some v => if v < 0 then (v + (n : Int)).toNat else min v.toNat n
theorem sIx_nat (n d k : Nat) : sIx n d (some (k : Int)) = min k n := by
  show (if (k : Int) < 0 then ((k : Int) + (n : Int)).toNat else min (k : Int).toNat n) = min k n
  rw [if_neg (by omega), Int.toNat_natCast]
end
end HT

namespace L2
open PySem PySem.Spec PyProof.Rows

/-! ### the parts of a slice -/
abbrev TO := St → Hp → (Option Int → Hp → Prop) → Prop
/-- a slice's part (left out, or an int) -/
def PO (X : Cx) (e : Option Expr) (t : TO) : Prop :=
  ∀ (pins : List (Addr × Obj)) (s : Shared) (σ : St) (H : Hp) (Q : Option Int → Hp → Prop), Inv X pins σ H s → t σ H Q →
    wpAny (model X.prog X.w) X.A (evalPart e X.env) (fun u s' => ∃ o H', Inv X pins σ H' s' ∧ IsPart u o ∧ Q o H') X.xe s
def tPart (t : TE) : TO := fun σ H Q => t σ H fun x H1 => ∃ i, x = .int i ∧ Q (some i) H1

section
variable {X : Cx} {e : Expr} {te : TE} {lo hi : Option Expr} {tl th : TO} {pos p2 : Pos}

theorem po_some (h : PE X e te) : PO X (some e) (tPart te) := by
  intro pins s σ H Q I hw
  rw [evalPart_some]
  refine thn (h pins s σ H _ I hw) fun u s1 ⟨x, H1, I1, r1, q1⟩ => ?_
  obtain ⟨i, rfl, q⟩ := q1
  obtain ⟨t, rfl⟩ := r1
  exact ⟨some i, H1, I1, .int i t, q⟩

/-- what a slice of a value is, by values: the slice object stands at sl -/
def SlR (X : Cx) (r : V → Option Int → Option Int → Hp → VK → Prop) : Prop :=
  ∀ (pins : List (Addr × Obj)) (s : Shared) (σ : St) (H : Hp) (x : V) (v vl vu : Value) (lo hi : Option Int) (sl : Addr) (Q : VK), Inv X pins σ H s → RelV x v → s.heap.IsSliceOf sl vl vu .none → IsPart vl lo → IsPart vu hi → r x lo hi H Q →
    ∃ T id, typeLookup (.type T) "__getitem__" = pure (some (.builtin id)) ∧ s.TypeIs v T ∧ wpAny (model X.prog X.w) X.A (getItem v (.ref sl)) (EP X pins σ Q) X.xe s
def tSl (r : V → Option Int → Option Int → Hp → VK → Prop) (te : TE) (tl th : TO) : TE := fun σ H Q => te σ H fun x H1 => tl σ H1 fun l H2 => th σ H2 fun u H3 => r x l u H3 Q
/-- a[lo:hi], any a -/
theorem pe_slice {r : V → Option Int → Option Int → Hp → VK → Prop} (hr : SlR X r) (he : PE X e te) (hl : PO X lo tl) (hu : PO X hi th) : PE X (.Subscript e (.Slice lo hi none p2) pos) (tSl r te tl th) := by
  intro pins s σ H Q I h
  refine Subscript_ (thn (he pins s σ H _ I h) fun v s1 ⟨x, H1, I1, r1, q1⟩ => ?_)
  refine wpAny_Slice (thn (hl pins s1 σ H1 _ I1 q1) fun vl s2 ⟨l, H2, I2, pl, q2⟩ => thn (hu pins s2 σ H2 _ I2 q2) fun vu s3 ⟨u, H3, I3, pu, q3⟩ => ?_)
  rw [evalPart_none]
  refine wpAny_pure ?_
  have I4 : Inv X pins σ H3 { s3 with heap := s3.heap.push { cls := .type "slice", data := .fields #[vl, vu, .none] } } := I3.kept (t' := s3.toks) fun b ob q => Heap.get?_push_of_some _ q
  obtain ⟨T, id, hT, ht, hg⟩ := hr pins { s3 with heap := s3.heap.push { cls := .type "slice", data := .fields #[vl, vu, .none] } } σ H3 x v vl vu l u s3.heap.objs.size Q I4 r1 (Heap.IsSliceOf.new ..) pl pu q3
  show wpAny (model X.prog X.w) X.A (subscriptTail e (.Slice lo hi none p2) v (.ref s3.heap.objs.size)) (EP X pins σ Q) X.xe { s3 with heap := s3.heap.push { cls := .type "slice", data := .fields #[vl, vu, .none] } }
  exact tail_any (ops := [.ref s3.heap.objs.size, v]) ht hT hg (by with_unfolding_all rfl)

/-- the items of xs[lo:hi] -/
def cutV (xs : List V) (lo hi : Option Int) : List V := (xs.drop (HT.sIx xs.length 0 lo)).take (HT.sIx xs.length xs.length hi - HT.sIx xs.length 0 lo)
theorem cutV_length (xs : List V) (lo hi : Option Int) : (cutV xs lo hi).length ≤ xs.length := by
  unfold cutV
  rw [List.length_take, List.length_drop]
  omega
/-! ### t < u, t + u -/
end
end L2

namespace L2
open PySem PySem.Spec PyProof.Rows

/-! ### places -/
/-- the place that an index of any sign means -/
def ixN (n : Nat) (i : Int) : Option Nat := if 0 ≤ i then (if i < n then some i.toNat else none) else if -(n : Int) ≤ i then some (i + n).toNat else none
def atI {α : Type} (xs : List α) (i : Int) : Option α := (ixN xs.length i).bind fun j => xs[j]?
theorem ixN_seq {n : Nat} {i : Int} {j : Nat} (h : ixN n i = some j) : seqIndex? i n = some j ∧ j < n ∧ -(n : Int) ≤ i ∧ i < n := by
  unfold ixN at h
  by_cases h0 : 0 ≤ i
  · rw [if_pos h0] at h
    by_cases h1 : i < n
    · rw [if_pos h1] at h
      have e : i.toNat = j := Option.some.inj h
      exact ⟨by rw [seqIndex_of h0 h1, e], by omega, by omega, h1⟩
    · rw [if_neg h1] at h; cases h
  · rw [if_neg h0] at h
    by_cases h1 : -(n : Int) ≤ i
    · rw [if_pos h1] at h
      have e : (i + n).toNat = j := Option.some.inj h
      exact ⟨by rw [seqIndex_neg (by omega) h1, e], by omega, h1, by omega⟩
    · rw [if_neg h1] at h; cases h
theorem atI_get {α : Type} {xs : List α} {i : Int} {v : α} (h : atI xs i = some v) : ∃ j, seqIndex? i xs.length = some j ∧ xs[j]? = some v ∧ j < xs.length ∧ -(xs.length : Int) ≤ i ∧ i < xs.length := by
  unfold atI at h
  cases e : ixN xs.length i with
  | none => rw [e] at h; cases h
  | some j =>
    rw [e] at h
    obtain ⟨h1, h2, h3, h4⟩ := ixN_seq e
    exact ⟨j, h1, h, h2, h3, h4⟩
theorem atI_nat {α : Type} {xs : List α} {j : Nat} {v : α} (h : xs[j]? = some v) : atI xs (j : Int) = some v := by
  have hj : j < xs.length := (List.getElem?_eq_some_iff.mp h).1
  have e : ixN xs.length (j : Int) = some j := by
    unfold ixN
    rw [if_pos (by omega), if_pos (by omega)]; simp
  unfold atI; rw [e]; exact h
/-! ### what may be subscripted -/
/-- what stands as an index of a plain subscript -/
def PlainIx (b : Expr) : Prop := ∀ o i, subscripted b false o i = operate [o, i] (getItem o i)
/-- a subscript by values -/
def IxR (X : Cx) (r : R2) : Prop :=
  ∀ (value slice : Expr) (pins : List (Addr × Obj)) (s : Shared) (σ : St) (H : Hp) (x y : V) (v u : Value) (Q : VK), Inv X pins σ H s → RelV x v → RelV y u → r x y H Q →
    subscripted slice false v u = operate [v, u] (getItem v u) → wpAny (model X.prog X.w) X.A (subscriptTail value slice v u) (EP X pins σ Q) X.xe s
/-- a call of a builtin's method by values: the receiver, the arguments -/
def MtR (X : Cx) (id : String) (r : V → List V → Hp → VK → Prop) : Prop :=
  ∀ (pins : List (Addr × Obj)) (s : Shared) (σ : St) (H : Hp) (x : V) (xs : List V) (v : Value) (us : List Value) (Q : VK), Inv X pins σ H s → RelV x v → Vals xs us → r x xs H Q →
    wpAny (model X.prog X.w) X.A (call (.builtin id) (v :: us)) (EP X pins σ Q) X.xe s
section
variable {X : Cx} {a b : Expr} {ta tb : TE} {pos : Pos}
/-- a[b] -/
theorem pe_ix {r : R2} (hr : IxR X r) (ha : PE X a ta) (hb : PE X b tb) (hs : PlainIx b) : PE X (.Subscript a b pos) (tOp r ta tb) := by
  intro pins s σ H Q I h
  exact Subscript_ (binT ha hb I h fun v u s2 x y H2 I2 rx ry q => hr a b pins s2 σ H2 x y v u Q I2 rx ry q (hs _ _))

def rIxL (K : PySem.W.Frag) : R2 := fun x y H Q => ∃ p xs i v, x = .ref p ∧ y = .int i ∧ SqL K H p xs ∧ atI xs i = some v ∧ Q v H
def rIxT (K : PySem.W.Frag) : R2 := fun x y H Q => ∃ p xs i v, x = .ref p ∧ y = .int i ∧ SqT K H p xs ∧ atI xs i = some v ∧ Q v H
theorem ix_list : IxR X (rIxL X.K) := by
  intro value slice pins s σ H x y v u Q I rx ry h hs
  obtain ⟨p, xs, i, z, rfl, rfl, hq, he, q⟩ := h
  cases rx
  obtain ⟨t, rfl⟩ := ry
  obtain ⟨its, r, pl, hz⟩ := I.list hq
  obtain ⟨j, h1, h2, h3, h4, h5⟩ := atI_get he
  obtain ⟨w, ew, rw'⟩ := r.get h2
  have hl := r.length
  have hn := line63
  have fin : EP X pins σ Q w s := ⟨z, H, I, rw', q⟩
  by_cases h0 : 0 ≤ i
  · have hj : i.toNat = j := by
      rw [seqIndex_of h0 h5] at h1
      exact Option.some.inj h1
    exact item_listR pl.isList h0 (by omega) (by rw [hj]; simpa using ew) fin hs
  · have hj : (i + (its.toArray.size : Int)).toNat = j := by
      rw [seqIndex_neg (by omega) h4] at h1
      rw [List.size_toArray, ← hl]
      exact Option.some.inj h1
    exact subscriptTail_builtinR (x := w) pl.isList.typeIs slot_list_getitem.lookup
      (wpAny_getItem_list_neg (Q := fun r s' => r = w ∧ EP X pins σ Q r s') pl.isList (by omega) (by rw [List.size_toArray] <;> omega) (by omega) (by rw [hj]; simpa using ew) ⟨rfl, fin⟩) hs
theorem ix_tup : IxR X (rIxT X.K) := by
  intro value slice pins s σ H x y v u Q I rx ry h hs
  obtain ⟨p, xs, i, z, rfl, rfl, hq, he, q⟩ := h
  cases rx
  obtain ⟨t, rfl⟩ := ry
  obtain ⟨its, r, pl, hz⟩ := I.tuple hq
  obtain ⟨j, h1, h2, h3, h4, h5⟩ := atI_get he
  obtain ⟨w, ew, rw'⟩ := r.get h2
  have hl := r.length
  have hn := line63
  have fin : EP X pins σ Q w s := ⟨z, H, I, rw', q⟩
  exact subscriptTail_builtinR (x := w) pl.typeIs slot_tuple_getitem.lookup
    (getItem_tuple (j := j) (Q := fun r s' => r = w ∧ EP X pins σ Q r s') pl (by omega) (by omega) (by rw [List.size_toArray, ← hl]; exact h1) (by simpa using ew) ⟨rfl, fin⟩) hs
/-! ### xs[i] = v, any sign -/
/-! ### slices -/
theorem slice_bounds (lo hi : Option Int) (n : Nat) : (sliceBounds lo hi none n).1 = ((HT.sIx n 0 lo : Nat) : Int) ∧ (sliceBounds lo hi none n).2.1 = ((HT.sIx n n hi : Nat) : Int) ∧ (sliceBounds lo hi none n).2.2 = 1 := by
  refine ⟨?_, ?_, rfl⟩
  · cases lo with
    | none => simp [sliceBounds, HT.sIx]
    | some i =>
      simp only [sliceBounds, HT.sIx, Option.getD_none, show (1 : Int) > 0 by decide, if_true]
      by_cases h : i < 0
      · simp only [h, if_true] <;> omega
      · simp only [h, if_false] <;> omega
  · cases hi with
    | none => simp [sliceBounds, HT.sIx]
    | some i =>
      simp only [sliceBounds, HT.sIx, Option.getD_none, show (1 : Int) > 0 by decide, if_true]
      by_cases h : i < 0
      · simp only [h, if_true] <;> omega
      · simp only [h, if_false] <;> omega
theorem slicePick_cut (its : List Value) (lo hi : Option Int) : slicePick its.toArray lo hi none = ((its.drop (HT.sIx its.length 0 lo)).take (HT.sIx its.length its.length hi - HT.sIx its.length 0 lo)).toArray := by
  obtain ⟨h1, h2, h3⟩ := slice_bounds lo hi its.toArray.size
  unfold slicePick
  rw [h1, h2, h3]
  simp only [sliceRange_one, pick_run, List.size_toArray] <;> rfl
/-- xs[lo:hi] of a list: a new list -/
def rSlL (K : PySem.W.Frag) : V → Option Int → Option Int → Hp → VK → Prop := fun x lo hi H Q => ∃ a xs, x = .ref a ∧ SqL K H a xs ∧ ∀ p, H p = none → Q (.ref p) (upd H p (.lst (cutV xs lo hi)))
theorem sl_list : SlR X (rSlL X.K) := by
  intro pins s σ H x v vl vu lo hi sl Q I rx hs pl pu h
  obtain ⟨a, xs, rfl, hx, q⟩ := h
  cases rx
  obtain ⟨its, r, ht, hz⟩ := I.list hx
  have hlen := r.length
  refine ⟨"list", _, slot_list_getitem.lookup, ht.isList.typeIs, ?_⟩
  refine wpAny_getItem_list_slice ht.isList hs pl pu .none (by simp) ?_ (by rw [List.size_toArray] <;> omega)
  rw [slicePick_cut, ← hlen]
  refine ⟨.ref s.heap.objs.size, _, I.laid (t' := s.toks) (o := .lst (cutV xs lo hi)) (fun b ob q => Heap.get?_push_of_some _ q) (Nat.le_refl _) ?_, rfl, q _ (I.hok.fresh (Nat.le_refl _))⟩
  exact ⟨Nat.le_trans (cutV_length xs lo hi) hz, _, 0, (r.drop (HT.sIx xs.length 0 lo)).take (HT.sIx xs.length xs.length hi - HT.sIx xs.length 0 lo), Heap.get?_push_size _ rfl⟩

/-! ### in, not in: flat items -/
def flatV : V → Bool
  | .non => true
  | .bl _ => true
  | .int _ => true
  | .str _ => true
  | _ => false
/-- == of flat values -/
def eqV : V → V → Bool
  | .non, .non => true
  | .bl a, .bl b => a == b
  | .bl a, .int b => (if a then 1 else 0) == b
  | .int a, .bl b => a == (if b then 1 else 0)
  | .int a, .int b => a == b
  | .str a, .str b => a == b
  | _, _ => false
theorem eqAt_V {A : Around} {s : Shared} {y x : V} {u v : Value} (ry : RelV y u) (rx : RelV x v) (fy : flatV y = true) (fx : flatV x = true) : SeqAt.EqAt A s u v (eqV y x) := by
  cases y with
  | non =>
    cases ry
    cases x with
    | non => cases rx; exact SeqAt.EqAt.same _
    | bl b => cases rx; exact SeqAt.EqAt.none_bool b
    | int b => obtain ⟨t, rfl⟩ := rx; exact SeqAt.EqAt.none_int b t
    | str b => obtain ⟨t, rfl⟩ := rx; exact SeqAt.EqAt.none_str b t
    | _ => exact absurd (show false = true from fx) Bool.false_ne_true
  | bl a =>
    cases ry
    cases x with
    | non => cases rx; exact SeqAt.EqAt.bool_none a
    | bl b => cases rx; exact SeqAt.EqAt.bool_bool a b
    | int b => obtain ⟨t, rfl⟩ := rx; exact SeqAt.EqAt.bool_int a b t
    | str b => obtain ⟨t, rfl⟩ := rx; exact SeqAt.EqAt.bool_str a b t
    | _ => exact absurd (show false = true from fx) Bool.false_ne_true
  | int a =>
    obtain ⟨t', rfl⟩ := ry
    cases x with
    | non => cases rx; exact SeqAt.EqAt.int_none a t'
    | bl b => cases rx; exact SeqAt.EqAt.int_bool a t' b
    | int b => obtain ⟨t, rfl⟩ := rx; exact SeqAt.EqAt.int_int a t' b t
    | str b => obtain ⟨t, rfl⟩ := rx; exact SeqAt.EqAt.int_str a t' b t
    | _ => exact absurd (show false = true from fx) Bool.false_ne_true
  | str a =>
    obtain ⟨t', rfl⟩ := ry
    cases x with
    | non => cases rx; exact SeqAt.EqAt.str_none a t'
    | bl b => cases rx; exact SeqAt.EqAt.str_bool a t' b
    | int b => obtain ⟨t, rfl⟩ := rx; exact SeqAt.EqAt.str_int a t' b t
    | str b => obtain ⟨t, rfl⟩ := rx; exact SeqAt.EqAt.str_str a t' b t
    | _ => exact absurd (show false = true from fx) Bool.false_ne_true
  | _ => exact absurd (show false = true from fy) Bool.false_ne_true
/-- the items' answers, read off the values (a value's own answer does not lean on its token) -/
def eqU (x : V) (u : Value) : Bool := match u with
  | .none => eqV .non x
  | .bool b => eqV (.bl b) x
  | .int i _ => eqV (.int i) x
  | .str z _ => eqV (.str z) x
  | _ => false
theorem eqU_of {x y : V} {u : Value} (r : RelV y u) (f : flatV y = true) : eqU x u = eqV y x := by
  cases y with
  | non => cases r; rfl
  | bl b => cases r; rfl
  | int i => obtain ⟨t, rfl⟩ := r; rfl
  | str z => obtain ⟨t, rfl⟩ := r; rfl
  | _ => exact absurd (show false = true from f) Bool.false_ne_true
theorem any_eqU {x : V} : ∀ {xs : List V} {us : List Value}, Vals xs us → xs.all flatV = true → us.any (eqU x) = xs.any fun y => eqV y x
  | _, _, .nil, _ => rfl
  | y :: xs, u :: us, .cons r t, f => by
    rw [List.all_cons, Bool.and_eq_true] at f
    rw [List.any_cons, List.any_cons, eqU_of r f.1, any_eqU t f.2]
theorem mem_eqAt {A : Around} {s : Shared} {x : V} {v : Value} (rx : RelV x v) (fx : flatV x = true) : ∀ {xs : List V} {us : List Value}, Vals xs us → xs.all flatV = true → ∀ u ∈ us, SeqAt.EqAt A s u v (eqU x u)
  | _, _, .nil, _ => fun u hu => by cases hu
  | y :: xs, u :: us, .cons r t, f => fun u' hu => by
    rw [List.all_cons, Bool.and_eq_true] at f
    rcases List.mem_cons.mp hu with rfl | hu
    · rw [eqU_of r f.1]; exact eqAt_V r rx f.1 fx
    · exact mem_eqAt rx fx t f.2 u' hu
def inV (x : V) (xs : List V) : Bool := xs.any fun y => eqV y x
/-- x in a list or tuple of flat items -/
def rIn (K : PySem.W.Frag) (neg : Bool) : R2 := fun x y H Q => ∃ p xs, y = .ref p ∧ (SqL K H p xs ∨ SqT K H p xs) ∧ flatV x = true ∧ xs.all flatV = true ∧ Q (.bl (if neg then !inV x xs else inV x xs)) H
theorem op_in_seq : OpR X (compareOp .In) (rIn X.K false) := by
  intro pins s σ H x y v u Q I rx ry h
  obtain ⟨p, xs, rfl, hq, fx, fs, q⟩ := h
  cases ry
  rcases hq with hq | hq
  · obtain ⟨its, r, pl, hz⟩ := I.list hq
    refine SeqAt.in_listAt (eqU x) pl.isList (fun w hw => mem_eqAt rx fx r fs w (by simpa using hw)) ⟨.bl _, H, I, rfl, ?_⟩
    rw [show its.toArray.any (eqU x) = its.any (eqU x) by simp, any_eqU r fs]
    exact q
  · obtain ⟨its, r, pl, hz⟩ := I.tuple hq
    refine SeqAt.in_tupleAt (eqU x) pl (fun w hw => mem_eqAt rx fx r fs w (by simpa using hw)) ⟨.bl _, H, I, rfl, ?_⟩
    rw [show its.toArray.any (eqU x) = its.any (eqU x) by simp, any_eqU r fs]
    exact q
/-! ### len, list(x), tuple(x) of any list or tuple that is read -/
theorem call_len_seq : CallR X (.builtin "len") (fun xs H Q => ∃ p ys, xs = [.ref p] ∧ (SqL X.K H p ys ∨ SqT X.K H p ys) ∧ Q (.int ys.length) H) := by
  intro pins s σ H xs us Q I r h
  obtain ⟨p, ys, rfl, hq, q⟩ := h
  obtain ⟨u, rfl, rx⟩ := vals1 r
  cases rx
  have hn := line63
  rcases hq with hq | hq
  · obtain ⟨its, r', pl, hz⟩ := I.list hq
    have hlen := r'.length
    exact Calls.call_len_list pl.isList (by simp only [List.size_toArray] <;> omega) ⟨.int ys.length, H, I.tok _, ⟨s.toks + 1, by rw [List.size_toArray, hlen]⟩, q⟩
  · obtain ⟨its, r', pl, hz⟩ := I.tuple hq
    have hlen := r'.length
    exact len_tuple pl (by simp only [List.size_toArray] <;> omega) ⟨.int ys.length, H, I.tok _, ⟨s.toks + 1, by rw [List.size_toArray, hlen]⟩, q⟩
/-! ### the call of a builtin's method: o.m(..) -/
/-- the value is of that builtin type -/
def tyV (K : PySem.W.Frag) (T : String) (x : V) (H : Hp) : Prop := match x with
  | .str _ => T = "str"
  | .int _ => T = "int"
  | .ref p => (T = "list" ∧ ∃ xs, SqL K H p xs) ∨ (T = "tuple" ∧ ∃ o, K.lookup p = some o ∧ o.cls = .type "tuple" ∧ o.dict = none) ∨
      (T = "dict" ∧ ((∃ kvs, H p = some (.dK kvs)) ∨ ∃ kvs, H p = some (.dT kvs))) ∨ (T = "set" ∧ ∃ S n, H p = some (.set S n))
  | _ => False
theorem tyV_is {pins : List (Addr × Obj)} {σ : St} {H : Hp} {s : Shared} {T : String} {x : V} {v : Value} (I : Inv X pins σ H s) (r : RelV x v) (ty : tyV X.K T x H) :
    s.TypeIs v T ∧ ∀ a, v = .ref a → ∃ ob, s.heap.get? a = some ob ∧ ob.dict = none := by
  cases x with
  | str z =>
    obtain ⟨t, rfl⟩ := r
    cases (show T = "str" from ty)
    exact ⟨typeIs_str s z t, fun _ e => nomatch e⟩
  | int i =>
    obtain ⟨t, rfl⟩ := r
    cases (show T = "int" from ty)
    exact ⟨typeIs_int s i t, fun _ e => nomatch e⟩
  | ref p =>
    cases r
    rcases ty with ⟨rfl, xs, hq⟩ | ⟨rfl, o, hk, hc, hd⟩ | ⟨rfl, hk⟩ | ⟨rfl, S, n, hk⟩
    · obtain ⟨its, _, pl, _⟩ := I.list hq
      refine ⟨pl.isList.typeIs, fun a e => ?_⟩
      cases e
      obtain ⟨o, n, e, c, hd, _⟩ := pl
      exact ⟨o, e, hd⟩
    · refine ⟨⟨o, I.kIn p o hk, hc⟩, fun a e => ?_⟩
      cases e
      exact ⟨o, I.kIn _ o hk, hd⟩
    · have z : ∃ o, s.heap.get? p = some o ∧ o.ExactDict := by
        rcases hk with ⟨kvs, hk⟩ | ⟨kvs, hk⟩
        · obtain ⟨_, _, _, _, o, _, _, e, ex, _⟩ := I.hok p _ hk
          exact ⟨o, e, ex⟩
        · obtain ⟨_, _, _, _, o, _, _, e, ex, _⟩ := I.hok p _ hk
          exact ⟨o, e, ex⟩
      obtain ⟨o, e, ex⟩ := z
      refine ⟨⟨o, e, ex.1⟩, fun a e2 => ?_⟩
      cases e2
      exact ⟨o, e, ex.2.1⟩
    · obtain ⟨o, _, _, _, e, ex, _⟩ := I.hok p _ hk
      refine ⟨⟨o, e, ex.1⟩, fun a e2 => ?_⟩
      cases e2
      exact ⟨o, e, ex.2.1⟩
  | _ => exact False.elim ty
def tBM (K : PySem.W.Frag) (T : String) (r : V → List V → Hp → VK → Prop) (to : TE) (t : TA) : TE := fun σ H Q => to σ H fun x H1 => tyV K T x H1 ∧ t σ H1 fun xs H2 => r x xs H2 Q
variable {o e : Expr} {es : List Expr} {to : TE} {t : TA} {name : Str} {apos cpos : Pos} {T id : String} {r : V → List V → Hp → VK → Prop}
theorem pe_bm (pa : PlainAttrs T) (slot : Slot T name id) (hty : typeOf (.builtin id) = pure (.type "method_descriptor")) (hm : MtR X id r) (ho : PE X o to) (ha : PA X (e :: es) t)
    (hbase : attributeBase o name X.env (eval o X.env) = eval o X.env := by rfl)
    (hfew : ((backTo cpos (starEach (e :: es) X.env)).all (fun x => !x.1) && (backToKw cpos (keywordEach [] X.env)).all (fun x => x.1.isSome)
      && decide ((e :: es).length + ([] : List Keyword).length + (if ([] : List Keyword).isEmpty then 0 else 1) < 30)) = true := by rfl)
    (hline : (apos.endLine == cpos.line) = true := by rfl) (hs : starEach (e :: es) X.env = (false, eval e X.env) :: starEach es X.env := by rfl) (hplain : (backTo cpos (starEach es X.env)).any (·.1) = false := by rfl) :
    PE X (.Call (.Attribute o name apos) (e :: es) [] cpos) (tBM X.K T r to t) := by
  intro pins s σ H Q I h
  refine wpAny_Call_method_late hbase hfew hline rfl (thn (ho pins s σ H _ I h) fun v s1 ⟨x, H1, I1, r1, ty, q1⟩ => ?_)
  obtain ⟨h1, h2⟩ := tyV_is I1 r1 ty
  refine ⟨T, id, pa, slot, hty, h1, h2, ?_⟩
  have hA := ha cpos pins s1 σ H1 _ I1 q1
  rw [hs] at hA ⊢
  refine Calls.callWith_builtin (by show (false || (backTo cpos (starEach es X.env)).any (·.1)) = false; rw [hplain] <;> rfl) (Calls.evalArgs_plain ?_)
  exact thn hA fun us s2 ⟨vs, H2, I2, r2, q2⟩ => hm pins s2 σ H2 x vs v us Q I2 r1 r2 q2
/- xs.append(e), list.index on a module's tuple .. are MtR facts of 06m -/
end
end L2

namespace L2
open PySem PySem.Spec PyProof.Rows

def MtM (X : Cx) (id : String) (r : V → List V → Hp → VK → Prop) : Prop :=
  ∀ (pins : List (Addr × Obj)) (s : Shared) (σ : St) (H : Hp) (x : V) (xs : List V) (v : Value) (us : List Value) (Q : VK), Inv X pins σ H s → RelV x v → Vals xs us → r x xs H Q →
    wpAny (model X.prog X.w) X.A (call (.builtin id) (v :: us)) (EP X pins σ Q) X.xe s

/-! ### lists of values -/
theorem Vals.one : ∀ {x : V} {us : List Value}, Vals [x] us → ∃ u, us = [u] ∧ RelV x u
  | _, _, .cons r .nil => ⟨_, rfl, r⟩
section
variable {X : Cx} {pins : List (Addr × Obj)} {σ : St} {H : Hp} {s : Shared} {l b : Addr} {xs ys zs : List V}

/-! ### the two steps: a tracked list is rewritten, a new list is laid -/
theorem Inv.lset {its its' : List Value} {n : Nat} {f : Array Value → Array Value} {t' : Nat} (I : Inv X pins σ H s) (hH : H l = some (.lst xs))
    (e : s.heap.get? l = some { cls := .type "list", data := .seq its.toArray n }) (hf : f its.toArray = its'.toArray) (hv : Vals ys its') (hz : ys.length ≤ sizeLine) :
    Inv X pins σ (upd H l (.lst ys)) { s with heap := s.heap.update l (Obj.mapSeq f), toks := t' } := by
  have q := PySem.IsL.update e f
  rw [hf] at q
  refine I.write (x := l) (e := l) (by rw [hH]; exact trivial) (.inl rfl) (fun b' u hb hu => (Heap.get?_update_other s.heap (Obj.mapSeq f) (Ne.symm hb)).trans hu) ⟨_, q⟩ ?_
  exact ⟨hz, its', _, hv, q⟩
theorem Inv.lnew {its : List Value} {t' : Nat} (I : Inv X pins σ H s) (hv : Vals ys its) (hz : ys.length ≤ sizeLine) :
    Inv X pins σ (upd H s.heap.objs.size (.lst ys)) { s with heap := s.heap.push { cls := .type "list", data := .seq its.toArray }, toks := t' } :=
  I.laid (fun _ _ q => Heap.get?_push_of_some _ q) (Nat.le_refl _) ⟨hz, its, 0, hv, Heap.get?_push_size _ rfl⟩
theorem Inv.fresh (I : Inv X pins σ H s) : H s.heap.objs.size = none := I.hok.fresh (Nat.le_refl _)
theorem Inv.lstM (I : Inv X pins σ H s) (hH : H l = some (.lst xs)) : xs.length ≤ sizeLine ∧ ∃ (its : List Value) (n : Nat), Vals xs its ∧ xs.length = its.length ∧ s.heap.get? l = some { cls := .type "list", data := .seq its.toArray n } := by
  obtain ⟨z, its, n, r, e⟩ := I.hok l _ hH
  exact ⟨z, its, n, r, r.length, e⟩

theorem notLongL {n : Nat} (h : n ≤ sizeLine) : Builtin.List.listTooLong n = false := by
  unfold Builtin.List.listTooLong
  exact decide_eq_false (by omega)
end

section
variable {X : Cx}

/-! ### methods -/
def rAppend : V → List V → Hp → VK → Prop := fun x vs H Q => ∃ l xs y, x = .ref l ∧ vs = [y] ∧ H l = some (.lst xs) ∧ xs.length < sizeLine ∧ Q .non (upd H l (.lst (xs ++ [y])))
theorem mt_append : MtM X "list.append" rAppend := by
  intro pins s σ H x vs v us Q I rx rv h
  obtain ⟨l, xs, y, rfl, rfl, hH, hz, q⟩ := h
  cases rx
  obtain ⟨u, rfl, ru⟩ := rv.one
  obtain ⟨z, its, n, r, hl, e⟩ := I.lstM hH
  refine call_meets F.slot_list_append ⟨_, e, rfl⟩ F.entry_list_append (F.args_list_append_2 _ _) (PySem.list_append l its.toArray n u (by rw [List.size_toArray]; omega)) ⟨e, ?_⟩
  refine ⟨.non, _, I.lset (its' := its ++ [u]) hH e (by simp) (r.append (.cons ru .nil)) ?_, rfl, q⟩
  rw [List.length_append, List.length_singleton]
  omega

def rExtend : V → List V → Hp → VK → Prop := fun x vs H Q => ∃ l b xs zs, x = .ref l ∧ vs = [.ref b] ∧ H l = some (.lst xs) ∧ H b = some (.lst zs) ∧ xs.length + zs.length ≤ sizeLine ∧ Q .non (upd H l (.lst (xs ++ zs)))
theorem mt_extend : MtM X "list.extend" rExtend := by
  intro pins s σ H x vs v us Q I rx rv h
  obtain ⟨l, b, xs, zs, rfl, rfl, hH, hB, hz, q⟩ := h
  cases rx
  obtain ⟨u, rfl, ru⟩ := rv.one
  cases ru
  obtain ⟨z, its, n, r, hl, e⟩ := I.lstM hH
  obtain ⟨z2, its2, n2, r2, hl2, e2⟩ := I.lstM hB
  have hsz : its.toArray.size + its2.toArray.size ≤ sizeLine := by rw [List.size_toArray, List.size_toArray]; omega
  have hlong : ¬ (!its.toArray.isEmpty && Builtin.List.listTooLong (its.toArray.size + its2.toArray.size)) = true := by
    rw [notLongL hsz, Bool.and_false]
    exact Bool.false_ne_true
  refine call_meets F.slot_list_extend ⟨_, e, rfl⟩ F.entry_list_extend (F.args_list_extend_2 _ _)
    (AutoSeq1.list_extend_list_list_0 l its.toArray n b its2.toArray n2 hlong (by rw [List.size_toArray]; omega) (by omega)) ⟨e, e2, ?_⟩
  refine ⟨.non, _, I.lset (its' := its ++ its2) hH e (by simp) (r.append r2) ?_, rfl, q⟩
  rw [List.length_append]
  omega

/-! ### list + list, list += list, list * int -/
def rCat : R2 := fun x y H Q => ∃ l b xs zs, x = .ref l ∧ y = .ref b ∧ H l = some (.lst xs) ∧ H b = some (.lst zs) ∧ xs.length + zs.length ≤ sizeLine ∧ ∀ p, H p = none → Q (.ref p) (upd H p (.lst (xs ++ zs)))
theorem op_cat : OpR X (binaryOp .Add) rCat := by
  intro pins s σ H x y v u Q I rx ry h
  obtain ⟨l, b, xs, zs, rfl, rfl, hH, hB, hz, q⟩ := h
  cases rx
  cases ry
  obtain ⟨z, its, n, r, hl, e⟩ := I.lstM hH
  obtain ⟨z2, its2, n2, r2, hl2, e2⟩ := I.lstM hB
  refine PySem.P.add_list e e2 ?_ (by rw [List.size_toArray, List.size_toArray]; omega)
  have ea : its.toArray ++ its2.toArray = (its ++ its2).toArray := by simp
  rw [ea]
  exact ⟨.ref _, _, I.lnew (t' := s.toks) (r.append r2) (by rw [List.length_append]; omega), rfl, q _ I.fresh⟩
/-! ### del xs[i] -/
end

/-! ### xs[a:b] = ys -/
section
variable {prog : Program} {w : World} {A : Around} {E : Value → Shared → Prop} {s : Shared}
set_option maxRecDepth 100000 in
end

section
variable {X : Cx}
end
end L2

namespace L2
open PySem PySem.Spec PyProof.Rows

theorem Vals.ints : ∀ {ns : List Int} {us : List Value}, Vals (ns.map V.int) us → IntsAre us ns
  | [], us, h => by
    rw [List.map_nil] at h
    cases h
    exact IntsAre.nil
  | n :: ns, us, h => by
    rw [List.map_cons] at h
    cases h with
    | cons r t =>
      obtain ⟨k, rfl⟩ := r
      exact IntsAre.cons n k (Vals.ints t)
theorem Vals.ref1 {a : Addr} {us : List Value} (r : Vals [V.ref a] us) : us = [Value.ref a] := by
  cases r with
  | cons r t =>
    cases t
    cases r
    rfl
/-! ### the library's walks over a list of ints, kept objects alone -/
section
variable {prog : Program} {w : World} {A : Around} {E : Value → Shared → Prop} {s : Shared} {l : Addr} {its : List Value} {ns : List Int} {Q : Value → Shared → Prop}
theorem sum_raw (hh : A.handled = none) (hl : s.heap.IsList l its.toArray) (hi : IntsAre its ns)
    (h : ∀ h' tk t', (∀ b o, s.heap.get? b = some o → h'.get? b = some o) → Q (.int ns.sum t') { s with heap := h', toks := tk }) : wpAny (model prog w) A (call (.builtin "sum") [.ref l]) Q E s := by
  obtain ⟨xs, e⟩ := hi.allInts.items
  have hn : numsOf (intItems xs).toList = ns := by rw [← e]; exact hi.numsOf
  rw [nums_intItems] at hn
  rw [e] at hl
  refine PySem.sum_intListG hh hl fun h' tk t' hk => ?_
  have := h h' tk t' hk
  rw [preSum_eq, List.take_of_length_le (by simp), hn]; exact this
end

/-! ### the calls, by values (CallR of 03t; MtR of 06l) -/
section
variable {X : Cx}
/-- sum(xs) of a list of ints -/
def rSum (K : PySem.W.Frag) : List V → Hp → VK → Prop := fun vs H Q => ∃ (a : Addr) (ns : List Int), vs = [V.ref a] ∧ SqL K H a (ns.map V.int) ∧ Q (.int ns.sum) H
theorem cr_sum (hc : X.calm = true) : CallR X (.builtin "sum") (rSum X.K) := by
  intro pins s σ H vs us Q I r h
  obtain ⟨a, ns, rfl, hs, q⟩ := h
  obtain ⟨its, rv, hl, _⟩ := I.list hs
  rw [Vals.ref1 r]
  exact sum_raw (I.ok.hd hc) hl.isList rv.ints fun h' tk t' hk => ⟨.int _, H, I.kept hk, ⟨_, rfl⟩, q⟩
/-! sorted, sort (fewer than 64 items: the library's own bound) -/
end

/-! ### list.index, flat items -/
section
variable {X : Cx}
def rIndex (K : PySem.W.Frag) : V → List V → Hp → VK → Prop := fun x xs H Q => ∃ (a : Addr) (ys : List V) (y : V) (j : Nat) (z : V), x = V.ref a ∧ xs = [y] ∧ SqL K H a ys ∧ flatV y = true ∧ ys.all flatV = true ∧ ys[j]? = some z ∧ eqV z y = true ∧
  (∀ (m : Nat) (z' : V), m < j → ys[m]? = some z' → eqV z' y = false) ∧ Q (.int (j : Nat)) H
theorem flat_at {ys : List V} (f : ys.all flatV = true) {j : Nat} {z : V} (h : ys[j]? = some z) : flatV z = true := List.all_eq_true.mp f z (List.mem_of_getElem? h)
theorem mt_index : MtR X "list.index" (rIndex X.K) := by
  intro pins s σ H x xs v us Q I rx rxs h
  obtain ⟨a, ys, y, j, z, rfl, rfl, hs, fy, fys, hz, hzj, hno, q⟩ := h
  cases rx
  cases rxs with
  | cons ry rt =>
    rename_i uy ut
    cases rt
    obtain ⟨its, rv, ⟨⟨cls, dd, data, sl⟩, n, ho, hc, hdn, hd⟩, hlen⟩ := I.list hs
    simp only at hc hd
    subst hc hd
    obtain ⟨u, hu, ru⟩ := rv.get hz
    obtain ⟨hjl, hje⟩ := List.getElem?_eq_some_iff.mp hu
    have hvl := rv.length
    have hj : j < its.toArray.size := by simpa using hjl
    have hsl := sizeLine_eq
    refine call_meets PySem.F.slot_list_index ⟨_, ho, rfl⟩ PySem.F.entry_list_index (PySem.F.args_list_index_2 _ _)
      (SeqAt.list_indexAt a its.toArray n dd sl uy (eqU y) j hj (by omega) ?_ ?_) ⟨ho, fun u' hu' => mem_eqAt ry fy rv fys u' (by simpa using hu'), ?_⟩
    · have e1 : its.toArray[j] = u := by simpa using hje
      rw [e1, eqU_of ru (flat_at fys hz)]
      exact hzj
    · intro m hm hmj
      have hml : m < its.length := by simpa using hm
      have hmy : m < ys.length := by omega
      have hy' : ys[m]? = some ys[m] := List.getElem?_eq_getElem hmy
      obtain ⟨u2, hu2, ru2⟩ := rv.get hy'
      obtain ⟨_, hme⟩ := List.getElem?_eq_some_iff.mp hu2
      have e1 : its.toArray[m] = u2 := by simpa using hme
      rw [e1, eqU_of ru2 (flat_at fys hy')]
      exact hno m _ hmj hy'
    · exact ⟨.int (j : Nat), H, I.tok _, ⟨_, rfl⟩, q⟩
end

/-! ### type(x) of an own instance; is, is not of a module's class -/
section
variable {X : Cx}
end

/-! ### any(xs), all(xs) of a list of bools -/
section
variable {X : Cx}
end

/-! ### == and != of data at any depth: none, bools, ints, texts, lists, tuples -/
section
variable {X : Cx} {pins : List (Addr × Obj)} {σ : St} {H : Hp} {s : Shared}
end
section
variable {X : Cx}
end
end L2

namespace L2
open PySem PySem.Spec PyProof.Rows
abbrev CellAt (h : Heap) (c : Addr) (v : Option Value) : Prop := h.IsCell c v
def relS (scope sc : Scope) : Scope :=
  { scope with names := scope.names.map fun (n, k) => if (k == .free && sc.kind == .function && sc.names.lookup n == some .cell) then (n, .cell) else (n, k) }

def cloFrom (cells : List (Str × Addr)) : List (Str × NameKind) → List (Str × Addr) → List (Str × Addr)
  | [], acc => acc
  | (n, k) :: r, acc => if k == .free then cloFrom cells r ((n, (cells.lookup n).getD 0) :: acc) else cloFrom cells r acc

theorem closure_loop (env : Env) (f : Str × NameKind → List (Str × Addr) → Sem (ForInStep (List (Str × Addr))))
    (hf : ∀ n k c, f (n, k) c = if k == .free then (do let a ← cellOf env n; pure (.yield ((n, a) :: c))) else pure (.yield c)) :
    ∀ (names : List (Str × NameKind)) (acc : List (Str × Addr)), (∀ y ∈ names, y.2 = .free → ∃ c, env.cells.lookup y.1 = some c) → forIn names acc f = pure (cloFrom env.cells names acc)
  | [], acc, _ => by rw [List.forIn_nil]; rfl
  | (n, k) :: r, acc, h => by
    rw [List.forIn_cons, hf]
    have ih := fun acc => closure_loop env f hf r acc fun y hy => h y (List.mem_cons_of_mem _ hy)
    unfold cloFrom
    by_cases hk : (k == NameKind.free) = true
    · rw [if_pos hk, if_pos hk]
      obtain ⟨c, hc⟩ := h (n, k) List.mem_cons_self (by simpa using hk)
      have e : cellOf env n = pure c := by unfold cellOf; rw [hc]
      rw [e]
      have e2 : (env.cells.lookup n).getD 0 = c := by rw [hc]; rfl
      rw [e2]
      exact ih _
    · rw [if_neg hk, if_neg hk]
      exact ih _
theorem closure_ok {scope : Scope} {env : Env} (h : ∀ y ∈ scope.names, y.2 = .free → ∃ c, env.cells.lookup y.1 = some c) : closureFor scope env = pure (cloFrom env.cells scope.names []) := by
  simp only [closureFor]
  rw [closure_loop env _ (fun n k c => rfl) scope.names [] h]
  rfl

theorem mem_lookup {α : Type} : ∀ {l : List (Str × α)} {n : Str} {c : α}, (n, c) ∈ l → ∃ c', l.lookup n = some c'
  | (k, v) :: r, n, c, h => by
    rw [List.lookup_cons]
    cases hb : n == k with
    | true => exact ⟨_, rfl⟩
    | false =>
      rcases List.mem_cons.mp h with e | h
      · cases e; simp at hb
      · exact mem_lookup h

theorem cloFrom_mem {cells : List (Str × Addr)} : ∀ {names : List (Str × NameKind)} {acc : List (Str × Addr)} {n : Str} {c : Addr}, (n, c) ∈ cloFrom cells names acc → (n, c) ∈ acc ∨ ((n, .free) ∈ names ∧ c = (cells.lookup n).getD 0)
  | [], _, _, _, h => .inl h
  | (m, k) :: r, acc, n, c, h => by
    unfold cloFrom at h
    split at h
    · rename_i hk
      have hk : k = .free := by simpa using hk
      rcases cloFrom_mem h with h | ⟨h1, h2⟩
      · rcases List.mem_cons.mp h with e | h
        · cases e; exact .inr ⟨hk ▸ List.mem_cons_self, rfl⟩
        · exact .inl h
      · exact .inr ⟨List.mem_cons_of_mem _ h1, h2⟩
    · rcases cloFrom_mem h with h | ⟨h1, h2⟩
      · exact .inl h
      · exact .inr ⟨List.mem_cons_of_mem _ h1, h2⟩
theorem cloFrom_acc {cells : List (Str × Addr)} : ∀ {names : List (Str × NameKind)} {acc : List (Str × Addr)} {p : Str × Addr}, p ∈ acc → p ∈ cloFrom cells names acc
  | [], _, _, h => h
  | (m, k) :: r, acc, p, h => by
    unfold cloFrom
    split
    · exact cloFrom_acc (List.mem_cons_of_mem _ h)
    · exact cloFrom_acc h
theorem cloFrom_has {cells : List (Str × Addr)} : ∀ {names : List (Str × NameKind)} {acc : List (Str × Addr)} {n : Str}, (n, .free) ∈ names → (n, (cells.lookup n).getD 0) ∈ cloFrom cells names acc
  | (m, k) :: r, acc, n, h => by
    unfold cloFrom
    rcases List.mem_cons.mp h with e | h
    · cases e
      exact cloFrom_acc List.mem_cons_self
    · split
      · exact cloFrom_has h
      · exact cloFrom_has h

theorem cells_mem : ∀ {names : List (Str × NameKind)} {h : Heap} {acc : List (Str × Addr)} {x : Str} {c : Addr}, (x, c) ∈ cellsFrom h.objs.size names acc →
    (x, c) ∈ acc ∨ ((x, .cell) ∈ names ∧ h.objs.size ≤ c ∧ CellAt (pushCells h names) c none)
  | [], _, _, _, _, h => .inl h
  | (n, k) :: r, h, acc, x, c, hm => by
    unfold cellsFrom at hm
    unfold pushCells
    split at hm
    · rename_i hk
      rw [if_pos hk]
      have hk : k = .cell := by simpa using hk
      rw [← Heap.size_push h { cls := .type "cell", data := .cell none }] at hm
      rcases cells_mem hm with hm | ⟨h1, h2, h3⟩
      · rcases List.mem_cons.mp hm with e | hm
        · cases e
          exact .inr ⟨hk ▸ List.mem_cons_self, Nat.le_refl _, _, pushCells_keeps r _ _ _ (Heap.get?_push_size _ rfl), rfl⟩
        · exact .inl hm
      · rw [Heap.size_push] at h2
        exact .inr ⟨List.mem_cons_of_mem _ h1, Nat.le_of_succ_le h2, h3⟩
    · rename_i hk
      rw [if_neg hk]
      rcases cells_mem hm with hm | ⟨h1, h2, h3⟩
      · exact .inl hm
      · exact .inr ⟨List.mem_cons_of_mem _ h1, h2, h3⟩
theorem cells_acc : ∀ {names : List (Str × NameKind)} {n : Nat} {acc : List (Str × Addr)} {p : Str × Addr}, p ∈ acc → p ∈ cellsFrom n names acc
  | [], _, _, _, h => h
  | (m, k) :: r, n, acc, p, h => by
    unfold cellsFrom
    split
    · exact cells_acc (List.mem_cons_of_mem _ h)
    · exact cells_acc h
theorem cells_has : ∀ {names : List (Str × NameKind)} {n : Nat} {acc : List (Str × Addr)} {x : Str}, (x, .cell) ∈ names → ∃ c, (x, c) ∈ cellsFrom n names acc
  | (m, k) :: r, n, acc, x, h => by
    unfold cellsFrom
    rcases List.mem_cons.mp h with e | h
    · cases e
      exact ⟨n, cells_acc List.mem_cons_self⟩
    · split
      · exact cells_has h
      · exact cells_has h
theorem cells_inj : ∀ {names : List (Str × NameKind)} {h : Heap} {acc : List (Str × Addr)} {x y : Str} {c : Addr}, (∀ p ∈ acc, p.2 < h.objs.size) → (∀ x y c, (x, c) ∈ acc → (y, c) ∈ acc → x = y) →
    (x, c) ∈ cellsFrom h.objs.size names acc → (y, c) ∈ cellsFrom h.objs.size names acc → x = y
  | [], _, _, _, _, _, _, hi, h1, h2 => hi _ _ _ h1 h2
  | (n, k) :: r, h, acc, x, y, c, hl, hi, h1, h2 => by
    unfold cellsFrom at h1 h2
    split at h1
    · rename_i hk
      rw [if_pos hk] at h2
      rw [← Heap.size_push h { cls := .type "cell", data := .cell none }] at h1 h2
      refine cells_inj (h := h.push _) (fun p hp => ?_) (fun x y c a b => ?_) h1 h2
      · rw [Heap.size_push]
        rcases List.mem_cons.mp hp with rfl | hp
        · exact Nat.lt_succ_self _
        · exact Nat.lt_succ_of_lt (hl p hp)
      · rcases List.mem_cons.mp a with e | a <;> rcases List.mem_cons.mp b with e' | b
        · cases e; cases e'; rfl
        · cases e; exact absurd (hl _ b) (Nat.lt_irrefl _)
        · cases e'; exact absurd (hl _ a) (Nat.lt_irrefl _)
        · exact hi _ _ _ a b
    · rename_i hk
      rw [if_neg hk] at h2
      exact cells_inj hl hi h1 h2

theorem newEnv_comp {M : Model} {A : Around} {E : Value → Shared → Prop} {s : Shared} {scope : Scope} {globals : Addr} {closure : List (Str × Addr)} {qual : Str} {func : Option Addr} {code : Value} {around : Env} {builtins : Addr} {Q : Env → Shared → Prop}
    (h : Q (newEnv scope s.heap.objs.size globals (cellsFrom (s.heap.objs.size + 1) scope.names closure) qual func code (some around) builtins)
      { s with heap := pushCells (s.heap.push { cls := .type "dict", data := .dict #[] }) scope.names }) :
    wpAny M A (newFunctionEnv scope globals closure [] qual func code (some around) builtins) Q E s := by
  simp only [newFunctionEnv, Option.isSome_some, if_true]
  refine wpAny_bind (wpAny_alloc ?_)
  refine wpAny_bind (wpAny_layCells _ (fun n k c => rfl) scope.names closure _ _ ?_)
  rw [show ({ s with heap := s.heap.push { cls := .type "dict", data := .dict #[] } } : Shared).heap.objs.size = s.heap.objs.size + 1 from Heap.size_push ..]
  rw [List.forIn_nil]
  exact wpAny_bind (wpAny_pure (wpAny_pure h))

/-- every name of the written scope, in the scope that runs -/
theorem lookup_relS {sc : Scope} : ∀ {names : List (Str × NameKind)} {x : Str} {k : NameKind},
    (names.map fun (n, k) => if (k == NameKind.free && sc.kind == .function && sc.names.lookup n == some .cell) then (n, NameKind.cell) else (n, k)).lookup x = some k →
    ∃ k', names.lookup x = some k' ∧ (k = k' ∨ (k' = .free ∧ k = .cell))
  | [], _, _, h => by simp at h
  | (n, k₀) :: r, x, k, h => by
    have ih := @lookup_relS sc r x k
    have h' : List.lookup x ((if (k₀ == NameKind.free && sc.kind == .function && sc.names.lookup n == some .cell) = true then (n, NameKind.cell) else (n, k₀)) :: (r.map _)) = some k := h
    cases hx : x == n with
    | true =>
      simp only [List.lookup_cons, hx]
      by_cases hc : (k₀ == NameKind.free && sc.kind == .function && sc.names.lookup n == some .cell) = true
      · rw [if_pos hc] at h'
        simp only [List.lookup_cons, hx] at h'
        cases h'
        simp only [Bool.and_eq_true, beq_iff_eq] at hc
        exact ⟨k₀, rfl, .inr ⟨hc.1.1, rfl⟩⟩
      · rw [if_neg hc] at h'
        simp only [List.lookup_cons, hx] at h'
        cases h'
        exact ⟨_, rfl, .inl rfl⟩
    | false =>
      simp only [List.lookup_cons, hx]
      by_cases hc : (k₀ == NameKind.free && sc.kind == .function && sc.names.lookup n == some .cell) = true
      · rw [if_pos hc] at h'
        simp only [List.lookup_cons, hx] at h'
        exact ih h'
      · rw [if_neg hc] at h'
        simp only [List.lookup_cons, hx] at h'
        exact ih h'
/-- the names of a comprehension's block: its own (with their places in N), or captured -/
structure BlkOk (N : List Str) (sc scope : Scope) (own : List (Str × Nat)) : Prop where
  kind : scope.kind = .function
  uniq : ∀ y ∈ scope.names, scope.names.lookup y.1 = some y.2
  ix : ∀ p ∈ own, N[p.2]? = some p.1
  free : ∀ y ∈ scope.names, y.2 = .free → sc.names.lookup y.1 = some .cell ∨ sc.names.lookup y.1 = some .free
  own : ∀ y ∈ scope.names, y.2 = .local ∨ y.2 = .cell → y.1 ∈ own.map (·.1) ∨ y.1 ∉ N
/-- the slots of the block's own names forgotten -/
def wipe (σ : St) : List Nat → St
  | [] => σ
  | v :: vs => (wipe σ vs).set v none
theorem wipe_length (σ : St) : ∀ vs : List Nat, (wipe σ vs).length = σ.length
  | [] => rfl
  | v :: vs => by unfold wipe; rw [List.length_set, wipe_length σ vs]
theorem wipe_some {σ : St} {i : Nat} {x : V} : ∀ {vs : List Nat}, (wipe σ vs)[i]? = some (some x) → σ[i]? = some (some x) ∧ i ∉ vs
  | [], h => ⟨h, by simp⟩
  | v :: vs, h => by
    unfold wipe at h
    by_cases hi : v = i
    · subst hi
      by_cases hv : v < (wipe σ vs).length
      · rw [List.getElem?_set_self hv] at h; cases h
      · rw [List.getElem?_eq_none (by simpa using hv)] at h; cases h
    · rw [List.getElem?_set_ne hi] at h
      obtain ⟨h1, h2⟩ := wipe_some h
      exact ⟨h1, by simp only [List.mem_cons, not_or]; exact ⟨fun e => hi e.symm, h2⟩⟩

/-- the context of a block that starts at s, its iterator's objects at fp -/
abbrev Cx.blk (X : Cx) (s : Shared) (H : Hp) (scope : Scope) (cenv : Env) (fp : List Addr) : Cx := { X with s_0 := s, H_0 := H, env := cenv, outer := X.stack, ex := fp, fn := fun x => scope.names.lookup x == some .cell, pn := [], xe := fun _ _ => False }
section
variable {X : Cx} {pins : List (Addr × Obj)} {σ : St} {H : Hp} {s : Shared}
theorem block_start {scope : Scope} {own : List (Str × Nat)} {fp : List Addr} (I : Inv X pins σ H s) (ok : BlkOk X.N X.env.scope scope own) (hN : X.N.Nodup) (hfp : ∀ b ∈ fp, FpOk X pins H b ∧ b < s.heap.objs.size) :
    Inv (X.blk s H scope (compEnvC scope (cellsFrom (s.heap.objs.size + 1) scope.names (cloFrom X.env.cells scope.names [])) s.heap.objs.size X.env) fp) [] (wipe σ (own.map (·.2))) H { s with heap := pushCells (s.heap.push { cls := .type "dict", data := .dict #[] }) scope.names } := by
  have hfree : ∀ y ∈ scope.names, y.2 = .free → ∃ c, X.env.cells.lookup y.1 = some c := fun y hy e => by
    rcases ok.free y hy e with k | k
    · exact I.ok.has _ (.inl k)
    · exact I.ok.has _ (.inr k)
  generalize hcenv : compEnvC scope (cellsFrom (s.heap.objs.size + 1) scope.names (cloFrom X.env.cells scope.names [])) s.heap.objs.size X.env = cenv
  have kp : ∀ b o, s.heap.get? b = some o → (pushCells (s.heap.push { cls := .type "dict", data := .dict #[] }) scope.names).get? b = some o := fun b o e => pushCells_keeps _ _ _ _ (Heap.get?_push_of_some _ e)
  have hL : cenv.locals = s.heap.objs.size := by rw [← hcenv]; rfl
  have hcl : cenv.cells = cellsFrom (s.heap.objs.size + 1) scope.names (cloFrom X.env.cells scope.names []) := by rw [← hcenv]; rfl
  have hsc : cenv.scope = relS scope X.env.scope := by rw [← hcenv]; rfl
  rw [← Heap.size_push s.heap { cls := .type "dict", data := .dict #[] }] at hcl
  have cm : ∀ {y c}, (y, c) ∈ cloFrom X.env.cells scope.names [] → X.env.cells.lookup y = some c ∧ c < s.heap.objs.size := fun {y c} hm => by
    rcases cloFrom_mem hm with hm | ⟨h1, rfl⟩
    · cases hm
    · obtain ⟨c, hc⟩ := hfree _ h1 rfl
      rw [hc]
      obtain ⟨w, z⟩ := I.cell _ _ hc
      exact ⟨rfl, z.lt⟩
  have mem : ∀ {y c}, cenv.cells.lookup y = some c → (X.env.cells.lookup y = some c ∧ c < s.heap.objs.size) ∨ (s.heap.objs.size + 1 ≤ c ∧ CellAt (pushCells (s.heap.push { cls := .type "dict", data := .dict #[] }) scope.names) c none) := fun {y c} e => by
    rw [hcl] at e
    rcases cells_mem (PySem.mem_of_lookup e) with hm | ⟨_, h2, h3⟩
    · exact .inl (cm hm)
    · rw [Heap.size_push] at h2; exact .inr ⟨h2, h3⟩
  have look : ∀ {y}, scope.names.lookup y = some .free → ∃ c, cenv.cells.lookup y = some c ∧ X.env.cells.lookup y = some c := fun {y} hl => by
    have hy : (y, NameKind.free) ∈ scope.names := PySem.mem_of_lookup hl
    obtain ⟨c', e'⟩ := mem_lookup (cells_acc (names := scope.names) (n := (s.heap.push { cls := .type "dict", data := .dict #[] }).objs.size) (cloFrom_has (cells := X.env.cells) (acc := []) hy))
    rw [← hcl] at e'
    refine ⟨c', e', ?_⟩
    rw [hcl] at e'
    rcases cells_mem (PySem.mem_of_lookup e') with hm | ⟨h1, _, _⟩
    · exact (cm hm).1
    · have := ok.uniq _ h1
      rw [hl] at this; cases this
  have okB : (X.blk s H scope cenv fp).Ok := by
    refine ⟨I.ok.mod, by show cenv.scope.kind = _; rw [hsc]; exact ok.kind, by show cenv.globals = _; rw [← hcenv]; exact I.ok.glob, by show cenv.builtins = _; rw [← hcenv]; exact I.ok.blt, by show s.heap.objs.size ≤ cenv.locals; rw [hL]; exact Nat.le_refl _,
      fun y z c e1 e2 => ?_, fun y hy => ?_, fun y c z e => ?_, I.ok.hd, I.ok.frames, .inl rfl, fun b hb => ⟨?_, fun y c e z => ?_⟩, I.bs, Nat.le_trans I.ok.bsz I.sz, fun b o e hb => ?_, fun b hb z => ?_, I.stack, I.stkFree⟩
    · have e1 : cenv.cells.lookup y = some c := e1
      have e2 : cenv.cells.lookup z = some c := e2
      rw [hcl] at e1 e2
      refine cells_inj (fun p hp => ?_) (fun y z c a b => I.ok.inj y z c (cm a).1 (cm b).1) (PySem.mem_of_lookup e1) (PySem.mem_of_lookup e2)
      rw [Heap.size_push]
      exact Nat.lt_succ_of_lt (cm (y := p.1) (c := p.2) hp).2
    · show ∃ c, cenv.cells.lookup y = some c
      have key : ∀ k, cenv.kindOf y = some k → (k = .cell ∨ k = .free) → ∃ c, cenv.cells.lookup y = some c := fun k hk hk' => by
        unfold Env.kindOf at hk
        rw [hsc] at hk
        obtain ⟨k', e, r⟩ := lookup_relS hk
        have : k' = .cell ∨ k' = .free := by
          rcases r with rfl | ⟨rfl, _⟩
          · exact hk'
          · exact .inr rfl
        rcases this with rfl | rfl
        · obtain ⟨c, hm⟩ := cells_has (n := (s.heap.push { cls := .type "dict", data := .dict #[] }).objs.size) (acc := cloFrom X.env.cells scope.names []) (PySem.mem_of_lookup e)
          obtain ⟨c', e'⟩ := mem_lookup hm
          exact ⟨c', by rw [hcl]; exact e'⟩
        · obtain ⟨c, h1, _⟩ := look e
          exact ⟨c, h1⟩
      rcases hy with hy | hy
      · exact key _ hy (.inl rfl)
      · exact key _ hy (.inr rfl)
    · have z : (scope.names.lookup y == some NameKind.cell) = true := z
      have z : scope.names.lookup y = some .cell := by simpa using z
      have e : cenv.cells.lookup y = some c := e
      rw [hcl] at e
      rcases cells_mem (PySem.mem_of_lookup e) with hm | ⟨_, h2, _⟩
      · rcases cloFrom_mem hm with hm | ⟨h1, _⟩
        · cases hm
        · have q := ok.uniq _ h1
          rw [z] at q; cases q
      · rw [Heap.size_push] at h2
        exact Nat.le_of_succ_le h2
    · show b ≠ cenv.locals
      rw [hL]; exact Nat.ne_of_lt (hfp b hb).2
    · have e : cenv.cells.lookup y = some c := e
      rcases mem e with ⟨h1, _⟩ | ⟨h1, _⟩
      · exact (hfp b hb).1.2.2.2.2.1 y c h1 z
      · have h2 : s.heap.objs.size + 1 ≤ b := by rw [← z]; exact h1
        exact absurd (Nat.lt_of_lt_of_le (hfp b hb).2 (Nat.le_of_succ_le h2)) (Nat.lt_irrefl _)
    · rcases (hfp b hb).1.2.2.2.1 with z | z
      · exact I.ok.noex b o e z
      · exact absurd (Nat.lt_of_lt_of_le (Heap.lt_size e) (Nat.le_trans I.ok.bsz z)) (Nat.lt_irrefl _)
    · rcases List.mem_cons.mp (I.stkSub b z) with z | z
      · exact (hfp b hb).1.2.1 z
      · exact (hfp b hb).1.2.2.1 z
  refine ⟨okB, rfl, I.bare, Un.kept kp, ⟨fun _ => none, ?_, fun i y av e1 e2 e3 => ?_⟩, fun y c e => ?_, ?_, fun y c e => ?_, fun p hp => ?_, I.hok.kept kp, by rw [wipe_length]; exact I.len⟩
  · show Heap.Ns _ cenv.locals _
    rw [hL]
    exact Heap.Ns.keeps (Heap.Ns.new ..) fun b o e => pushCells_keeps _ _ _ _ e
  · obtain ⟨e2, hne⟩ := wipe_some e2
    have hfr : scope.names.lookup y = some .free ∧ (cenv.kindOf y = some .cell ∨ cenv.kindOf y = some .free) := by
      have key : ∀ k, cenv.scope.names.lookup y = some k → k = .local ∨ k = .cell ∨ k = .free → scope.names.lookup y = some .free ∧ (cenv.kindOf y = some .cell ∨ cenv.kindOf y = some .free) := fun k hk hk' => by
        have hk0 := hk
        rw [hsc] at hk
        obtain ⟨k', e, r⟩ := lookup_relS hk
        have no : ¬ (k' = .local ∨ k' = .cell) := fun hh => by
          rcases ok.own _ (PySem.mem_of_lookup e) hh with e' | e'
          · obtain ⟨p, hp, hpy⟩ := List.mem_map.mp e'
            have e3 := ok.ix p hp
            have : p.1 = y := hpy
            rw [this] at e3
            exact hne (List.mem_map.mpr ⟨p, hp, nodup_ix hN e3 e1⟩)
          · exact e' (List.mem_of_getElem? e1)
        rcases r with rfl | ⟨rfl, rfl⟩
        · rcases hk' with rfl | rfl | rfl
          · exact absurd (.inl rfl) no
          · exact absurd (.inr rfl) no
          · exact ⟨e, .inr hk0⟩
        · exact ⟨e, .inl hk0⟩
      have e3 : Vis cenv.scope y := e3
      rcases e3 with e3 | e3 | e3
      · exact key _ e3 (.inl rfl)
      · exact key _ e3 (.inr (.inl rfl))
      · exact key _ e3 (.inr (.inr rfl))
    obtain ⟨m, hn, hl⟩ := I.loc
    have hvis : Vis X.env.scope y := (ok.free _ (PySem.mem_of_lookup hfr.1) rfl).elim (fun k => .inr (.inl k)) (fun k => .inr (.inr k))
    obtain ⟨w, r, q⟩ := hl i y av e1 e2 hvis
    refine ⟨w, r, .inr ⟨hfr.2, ?_⟩⟩
    obtain ⟨c, h1, h2⟩ := look hfr.1
    rcases q with ⟨k, _⟩ | ⟨_, c', e', z⟩
    · have k : X.env.scope.names.lookup y = some .local := k
      rcases ok.free _ (PySem.mem_of_lookup hfr.1) rfl with k' | k' <;> rw [show X.env.scope.names.lookup y = _ from k'] at k <;> cases k
    · rw [h2] at e'; cases e'
      exact ⟨c, h1, z.keeps kp⟩
  · have e : cenv.cells.lookup y = some c := e
    rcases mem e with ⟨h1, _⟩ | ⟨_, z⟩
    · obtain ⟨w, z⟩ := I.cell y c h1
      exact ⟨w, z.keeps kp⟩
    · exact ⟨_, z⟩
  · show H cenv.locals = none
    rw [hL]; exact I.hok.fresh (Nat.le_refl _)
  · have e : cenv.cells.lookup y = some c := e
    rcases mem e with ⟨h1, _⟩ | ⟨h1, _⟩
    · exact I.freeC y c h1
    · exact I.hok.fresh (Nat.le_of_succ_le h1)
  · exact absurd (show p ∈ ([] : List (Addr × Obj)) ++ [] from hp) (by simp)

/-- an item appended to a tracked list -/
theorem app_ok {E : Value → Shared → Prop} {D : Addr} {xs : List V} {y : V} {v : Value} {Q : Value → Shared → Prop} (I : Inv X pins σ H s) (hD : H D = some (.lst xs)) (hz : xs.length < sizeLine) (r : RelV y v)
    (h : ∀ s', Inv X pins σ (upd H D (.lst (xs ++ [y]))) s' → Q .none s') : wpAny (model X.prog X.w) X.A (call (.builtin "list.append") [.ref D, v]) Q E s := by
  obtain ⟨hz', its, n, ri, e⟩ := I.hok D _ hD
  have hl := ri.length
  refine append_at (hsz := by rw [List.size_toArray]; omega) e fun h' sb ho' => ?_
  refine h { s with heap := h' } (I.write (t' := s.toks) (by rw [hD]; trivial) (.inl rfl) (fun b u hb q => (sb.2 b hb).trans q) ⟨_, ho'⟩ ⟨by rw [List.length_append]; exact hz, its ++ [v], n + 1, ri.append (.cons r .nil), ?_⟩)
  rw [ho']
  simp

/-- a clause's tests -/
def PTs (X : Cx) (ifs : List Expr) (t : TT) : Prop :=
  ∀ (pins : List (Addr × Obj)) (s : Shared) (σ : St) (H : Hp) (Q : Bool → Hp → Prop), Inv X pins σ H s → t σ H Q →
    wpAny (model X.prog X.w) X.A (forIn ifs true fun c r => if r = true then do let ok ← isTrue c X.env (eval c X.env); pure (ForInStep.yield ok) else pure (ForInStep.yield r)) (TP X pins σ Q) X.xe s
def tYes : TT := fun _ H Q => Q true H
theorem pts_nil : PTs X [] tYes := fun _ _ _ H _ I h => wpAny_tests_nil ⟨H, I, h⟩
end

theorem thnF {α : Type} {t : Sem α} {Q Q' : α → Shared → Prop} {M : Model} {A : Around} {E : Value → Shared → Prop} {s : Shared} (h : wpAny M A t Q (fun _ _ => False) s) (hQ : ∀ a s, Q a s → Q' a s) : wpAny M A t Q' E s := wpAny_mono h hQ fun _ _ z => False.elim z

/-- the loop of a list comprehension's block, the target of any form (codeAny_compLoop_tests asks a target that no tuple goes to; statement and proof follow it, PyProof/CompMap.lean:41-61, with the step letOwnedTupleGo kept) -/
theorem compLoop_any {prog : Program} {w : World} {A : Around} {R : Result → Shared → Prop} {s : Shared} {elt target iter : Expr} {ifs : List Expr} {scope : Scope} {pos : Pos} {it acc : Value} {env : Env} (I : Nat → Shared → Prop)
    (turn : ∀ n s, I n s → wpAny (model prog w) A (pyNext it) (fun r s₁ => match r with
      | none => R (.ok .next) s₁
      | some v => wpAny (model prog w) A (letOwnedTupleGo target it v) (fun _ s₁' => wpAny (model prog w) A (assign target env v) (fun _ s₂ =>
          wpAny (model prog w) A (forIn ifs true fun c r => if r = true then do let ok ← isTrue c env (eval c env); pure (ForInStep.yield ok) else pure (ForInStep.yield r)) (fun ok s₃ =>
            if ok = true then wpAny (model prog w) A (eval elt env) (fun x s₄ =>
              wpAny (model prog w) A (call (.builtin "list.append") [acc, x]) (fun _ s₅ => ∃ m, m < n ∧ I m s₅) (notedBy (model prog w) A env fun e s' => R (.error e) s') s₄) (notedBy (model prog w) A env fun e s' => R (.error e) s') s₃
            else ∃ m, m < n ∧ I m s₃) (notedBy (model prog w) A env fun e s' => R (.error e) s') s₂) (notedBy (model prog w) A env fun e s' => R (.error e) s') s₁') (notedBy (model prog w) A env fun e s' => R (.error e) s') s₁) (notedBy (model prog w) A env fun e s' => R (.error e) s') s)
    (n : Nat) (h : I n s) :
    codeAny (model prog w) A (.compLoop (.ListComp elt [⟨target, iter, ifs, 0⟩] scope pos) 0 it acc env) R s := by
  refine codeAny_loop rfl I (fun n s hI => ?_) n h
  show wpAny _ A ((compTurn (.ListComp elt [⟨target, iter, ifs, 0⟩] scope pos) 0 it acc env).onRaise (fun x => do noteFrame x env; theTreesLotGoes x)) _ _ s
  refine wpAny_noted ?_
  rw [compTurn_list]
  refine wpAny_bind (wpAny_standAt (wpAny_bind (wpAny_mono (turn n s hI) (fun r s₁ h₁ => ?_) fun _ _ h' => h')))
  cases r with
  | none => exact wpAny_pure h₁
  | some v =>
    refine wpAny_bind (wpAny_mono h₁ (fun _ s₁' h₁' => ?_) fun _ _ h' => h')
    refine wpAny_bind (wpAny_mono h₁' (fun _ s₂ h₂ => wpAny_bind (wpAny_mono h₂ (fun ok s₃ h₃ => ?_) fun _ _ h' => h')) fun _ _ h' => h')
    cases ok with
    | false => exact wpAny_pure ⟨rfl, h₃⟩
    | true =>
      exact wpAny_bind (wpAny_bind (wpAny_mono h₃ (fun x s₄ h₄ => wpAny_bind (wpAny_mono h₄ (fun _ s₅ h₅ => wpAny_pure (wpAny_pure ⟨rfl, h₅⟩)) fun _ _ h' => h')) fun _ _ h' => h'))

section
variable {X : Cx}
/-- [elt for target in iter if ..]: D the new list; W by the turn and a measure, Nx what a turn is to reach -/
def tLc (wi : TI) (g : TG) (tt : TT) (te : TE) (vs : List Nat) : TE := fun σ H Q => wi σ H fun J H1 => ∀ D, H1 D = none → ∃ W : Nat → Nat → Hp → Prop, (∃ m, W 0 m (upd H1 D (.lst []))) ∧ ∀ i m H, W i m H →
  (J.stop i H ∧ Q (.ref D) H) ∨ (J.go i H ∧ ∃ Nx : Hp → Prop, (∀ H', Nx H' → ∃ m', m' < m ∧ W (i + 1) m' H') ∧ ∀ x H', J.yld i H x H' → g x (wipe σ vs) H' fun σ2 H2 => wipe σ2 vs = wipe σ vs ∧ tt σ2 H2 fun b H3 =>
    if b = true then te σ2 H3 fun y H4 => ∃ acc, H4 D = some (.lst acc) ∧ acc.length < sizeLine ∧ Nx (upd H4 D (.lst (acc ++ [y]))) else Nx H3)
theorem lc_core {pins : List (Addr × Obj)} {s : Shared} {σ : St} {H : Hp} {Q : VK} {elt tg iter : Expr} {ifs : List Expr} {scope : Scope} {own : List (Str × Nat)} {pos pos' : Pos} {wi : TI} {g : TG} {tt : TT} {te : TE} {use : Option (Value → Sem Unit)} {Qf : Value → Shared → Prop}
    (hc : X.calm = true) (hN : X.N.Nodup) (I : Inv X pins σ H s) (hi : PI X tg iter wi) (ok : BlkOk X.N X.env.scope scope own)
    (hg : ∀ (s : Shared) (H : Hp) (C : Addr) (cl : List (Str × Addr)) (fp : List Addr), PG (X.blk s H scope (compEnvC scope cl C X.env) fp) tg g) (ht : ∀ (s : Shared) (H : Hp) (C : Addr) (cl : List (Str × Addr)) (fp : List Addr), PTs (X.blk s H scope (compEnvC scope cl C X.env) fp) ifs tt)
    (he : ∀ (s : Shared) (H : Hp) (C : Addr) (cl : List (Str × Addr)) (fp : List Addr), PE (X.blk s H scope (compEnvC scope cl C X.env) fp) elt te) (hs : ∀ x, foldedSetIterable iter X.env x = pure x)
    (h : tLc wi g tt te (own.map (·.2)) σ H Q)
    (hRR : ∀ D C s' m H', Inv X pins σ H' s' → Q (.ref D) H' → s'.heap.Ns C m → FpOk X pins H' C → compPost (model X.prog X.w) X.A X.xe use Qf (.ref D) C (.ok .next) s') :
    wpAny (model X.prog X.w) X.A (comprehension (.ListComp elt [⟨tg, iter, ifs, 0⟩] scope pos) scope X.env pos' (newList []) false (eval iter X.env) use) Qf X.xe s := by
  have hfree : ∀ y ∈ scope.names, y.2 = .free → ∃ c, X.env.cells.lookup y.1 = some c := fun y hy e => by
    rcases ok.free y hy e with k | k
    · exact I.ok.has _ (.inl k)
    · exact I.ok.has _ (.inr k)
  refine wpAny_comprehension_free (use := use) rfl hs (closure_ok hfree) ok.kind (fun y hy e => by rw [ok.uniq y hy, e])
    (thn (hi pins s σ H _ I h) fun xv s1 hx => thn hx fun itv s2 h2 => ?_)
  obtain ⟨it, fp, tn, J, H2, e, I2, T, st2, f2, q⟩ := h2
  subst e
  refine wpAny_newObj_type (newEnv_comp ?_) (by show 0 ≤ sizeLine; decide)
  generalize hD : s2.heap.objs.size = D
  have hDn : H2 D = none := I2.hok.fresh (Nat.le_of_eq hD)
  obtain ⟨W, ⟨m0, w0⟩, turn⟩ := q D hDn
  -- the new list
  generalize hs3 : ({ s2 with heap := s2.heap.push { cls := .type "list", data := .seq ([] : List Value).toArray } } : Shared) = s3
  have I3 : Inv X pins σ (upd H2 D (.lst [])) s3 := by
    rw [← hs3]
    refine I2.laid (t' := s2.toks) (fun b o e => Heap.get?_push_of_some _ e) (Nat.le_of_eq hD) ⟨Nat.zero_le _, [], 0, .nil, ?_⟩
    rw [← hD]
    exact Heap.get?_push_size _ rfl
  have h3 : s3.heap = s2.heap.push { cls := .type "list", data := .seq ([] : List Value).toArray } := by rw [← hs3]
  have sz : ∀ b ∈ fp, b < s2.heap.objs.size := fun b hb => by
    obtain ⟨o, e, _⟩ := T.obj _ _ st2 b hb
    exact Heap.lt_size e
  have f3 : ∀ b ∈ fp, FpOk X pins (upd H2 D (.lst [])) b ∧ b < s3.heap.objs.size := fun b hb => by
    have hlt := sz b hb
    refine ⟨⟨?_, (f2 b hb).2⟩, by rw [h3, Heap.size_push]; exact Nat.lt_succ_of_lt hlt⟩
    rw [upd_ne (by rw [← hD]; exact Nat.ne_of_lt hlt)]
    exact (f2 b hb).1
  have st3 : tn 0 s3.heap := T.keep _ _ _ st2 fun b _ o e => by rw [h3]; exact Heap.get?_push_of_some _ e
  have I4 := block_start I3 ok hN f3
  have pg := hg s3 (upd H2 D (.lst [])) s3.heap.objs.size (cellsFrom (s3.heap.objs.size + 1) scope.names (cloFrom X.env.cells scope.names [])) fp
  have pt := ht s3 (upd H2 D (.lst [])) s3.heap.objs.size (cellsFrom (s3.heap.objs.size + 1) scope.names (cloFrom X.env.cells scope.names [])) fp
  have pe := he s3 (upd H2 D (.lst [])) s3.heap.objs.size (cellsFrom (s3.heap.objs.size + 1) scope.names (cloFrom X.env.cells scope.names [])) fp
  show codeAny _ _ (.compStart (.ListComp elt [⟨tg, iter, ifs, 0⟩] scope pos) 0 (.ref it) (.ref D) (compEnvC scope (cellsFrom (s3.heap.objs.size + 1) scope.names (cloFrom X.env.cells scope.names [])) s3.heap.objs.size X.env)) (compPost (model X.prog X.w) X.A X.xe use Qf (.ref D) s3.heap.objs.size) { s3 with heap := pushCells (s3.heap.push { cls := .type "dict", data := .dict #[] }) scope.names }
  have nfp : ∀ b ∈ fp, (upd H2 D (.lst [])) b = none := fun b hb => (f3 b hb).1.1
  generalize hce : compEnvC scope (cellsFrom (s3.heap.objs.size + 1) scope.names (cloFrom X.env.cells scope.names [])) s3.heap.objs.size X.env = ce at I4 pg pt pe ⊢
  have cL : ce.locals = s3.heap.objs.size := by subst hce; rfl
  generalize hH3 : upd H2 D (.lst []) = H3 at I3 I4 pg pt pe w0 nfp f3
  generalize hs4 : ({ s3 with heap := pushCells (s3.heap.push { cls := .type "dict", data := .dict #[] }) scope.names } : Shared) = s4 at I4 ⊢
  have st4 : tn 0 s4.heap := T.keep _ _ _ st3 fun b _ o e => by rw [← hs4]; exact pushCells_keeps _ _ _ _ (Heap.get?_push_of_some _ e)
  have stat : ∀ {σ' : St} {H' : Hp} {s' : Shared}, Inv (X.blk s3 H3 scope ce fp) [] σ' H' s' → (∀ b ∈ fp, H' b = none) → ∀ b ∈ fp, FpOk (X.blk s3 H3 scope ce fp) [] H' b := fun {σ' H' s'} I' hn b hb =>
    ⟨hn b hb, (I'.ok.exf b hb).1, I'.ok.exfs b hb, .inl hb, fun x c e => (I'.ok.exf b hb).2 x c e, fun p hp => absurd (show p ∈ ([] : List (Addr × Obj)) ++ [] from hp) (by simp)⟩
  have loop : codeAny (model X.prog X.w) X.A (.compLoop (.ListComp elt [⟨tg, iter, ifs, 0⟩] scope pos) 0 (.ref it) (.ref D) ce) (compPost (model X.prog X.w) X.A X.xe use Qf (.ref D) s3.heap.objs.size) s4 := by
    refine compLoop_any (fun n s' => ∃ i H', Inv (X.blk s3 H3 scope ce fp) [] (wipe σ (own.map (·.2))) H' s' ∧ tn i s'.heap ∧ (∀ b ∈ fp, H' b = none) ∧ W i n H') ?_ m0 ⟨0, H3, I4, st4, nfp, w0⟩
    rintro n s5 ⟨i, H5, I5, st5, n5, w5⟩
    rcases turn i n H5 w5 with ⟨stop, qq⟩ | ⟨go, Nx, hNx, step⟩
    · have td := T.done (X.blk s3 H3 scope ce fp) rfl rfl rfl hc i [] s5 _ H5 (fun _ _ => False) I5 (stat I5 n5) st5 stop
      refine thnF td fun r s6 ⟨hr, I6⟩ => ?_
      subst hr
      -- back in the def's context
      have I7 : Inv X pins σ H5 s6 := I3.call' (ch := fp) I6.os I6.base I6.hok I6.bare fun b hb => ⟨(f3 b hb).1.2.2.2.1, (f3 b hb).1.2.1, (f3 b hb).1.2.2.2.2.1, (f3 b hb).1.2.2.2.2.2⟩
      have nC : H5 s3.heap.objs.size = none := by
        have z : H5 ce.locals = none := I6.free
        rw [cL] at z
        exact z
      obtain ⟨m, hn, _⟩ := I6.loc
      have hn : s6.heap.Ns ce.locals m := hn
      rw [cL] at hn
      exact hRR D s3.heap.objs.size s6 m H5 I7 qq hn (I3.fpOk (Nat.le_refl _) nC)
    · have ti := T.item (X.blk s3 H3 scope ce fp) rfl rfl rfl hc i [] s5 _ H5 (fun _ _ => False) I5 (stat I5 n5) st5 go
      refine thnF ti fun r s6 ⟨u, hr, h6⟩ => ?_
      subst hr
      refine thnF h6 fun _ s7 ⟨x, H7, I7, r7, y7, st7, n7⟩ => ?_
      have I7' := I7.pinned (stat I7 n7) (T.obj _ _ st7)
      refine thnF (pg _ s7 _ H7 x u _ I7' r7 (step x H7 y7)) fun _ s8 ⟨σ8, H8, I8, hw8, q8⟩ => ?_
      refine thnF (pt _ s8 σ8 H8 _ I8 q8) fun b s9 ⟨H9, I9, q9⟩ => ?_
      -- the turn's end
      have fin : ∀ {s' : Shared} {H' : Hp}, Inv (X.blk s3 H3 scope ce fp) ([] ++ pinsAt fp s7.heap) σ8 H' s' → Nx H' → ∃ m, m < n ∧ ∃ i H', Inv (X.blk s3 H3 scope ce fp) [] (wipe σ (own.map (·.2))) H' s' ∧ tn i s'.heap ∧ (∀ b ∈ fp, H' b = none) ∧ W i m H' := fun {s' H'} I' nx => by
        obtain ⟨m', hm, w'⟩ := hNx H' nx
        have pin' : ∀ b ∈ fp, ∀ o, s7.heap.get? b = some o → s'.heap.get? b = some o ∧ H' b = none := fun b hb o e =>
          let z := I'.pin (b, o) (List.mem_append_right _ (List.mem_append_right _ (mem_pinsAt hb e)))
          ⟨z.1, z.2.1⟩
        have hl : (wipe σ (own.map (·.2))).length = σ8.length := by rw [← hw8, wipe_length]
        refine ⟨m', hm, i + 1, H', (I'.unpinned (pins := [])).weak hl (fun j v e => ?_), T.keep _ _ _ st7 fun b hb o e => (pin' b hb o e).1, fun b hb => ?_, w'⟩
        · rw [← hw8] at e
          exact (wipe_some e).1
        · obtain ⟨o, e, _⟩ := T.obj _ _ st7 b hb
          exact (pin' b hb o e).2
      cases b with
      | false =>
        simp only [Bool.false_eq_true, if_false] at q9 ⊢
        exact fin I9 q9
      | true =>
        simp only [if_true] at q9 ⊢
        refine thnF (pe _ s9 σ8 H9 _ I9 q9) fun z s10 ⟨yv, H10, I10, r10, acc, hD10, hz10, nx⟩ => ?_
        exact app_ok (X := X.blk s3 H3 scope ce fp) I10 hD10 hz10 r10 fun s11 I11 => fin I11 nx
  exact codeAny_compStart_list loop (T.self X.A 0 _ _ _ st4 loop)
/-- as a value -/
theorem pe_lc {elt tg iter : Expr} {ifs : List Expr} {scope : Scope} {own : List (Str × Nat)} {pos : Pos} {wi : TI} {g : TG} {tt : TT} {te : TE} (hc : X.calm = true) (hN : X.N.Nodup) (hi : PI X tg iter wi) (ok : BlkOk X.N X.env.scope scope own)
    (hg : ∀ (s : Shared) (H : Hp) (C : Addr) (cl : List (Str × Addr)) (fp : List Addr), PG (X.blk s H scope (compEnvC scope cl C X.env) fp) tg g) (ht : ∀ (s : Shared) (H : Hp) (C : Addr) (cl : List (Str × Addr)) (fp : List Addr), PTs (X.blk s H scope (compEnvC scope cl C X.env) fp) ifs tt)
    (he : ∀ (s : Shared) (H : Hp) (C : Addr) (cl : List (Str × Addr)) (fp : List Addr), PE (X.blk s H scope (compEnvC scope cl C X.env) fp) elt te) (hs : ∀ x, foldedSetIterable iter X.env x = pure x := by intro _; rfl) :
    PE X (.ListComp elt [⟨tg, iter, ifs, 0⟩] scope pos) (tLc wi g tt te (own.map (·.2))) := by
  intro pins s σ H Q I h
  rw [eval_ListComp]
  refine lc_core hc hN I hi ok hg ht he hs h fun D C s' m H' I' q hn f => ⟨m, hn, fun h'' sb => ?_⟩
  obtain ⟨f0, f1, f2, f3, f4, f5⟩ := f
  exact ⟨.ref D, H', I'.turned (t' := s'.toks) (fun b o hb e => (sb.2 b hb).trans e) f0 f1 f3 f4 f5, rfl, q⟩
end

/-! ### the forms one uses -/
/-- over a range: Pv by the turn and the heap (the new list at D within) -/
theorem lc_range {lo : Int} {n : Nat} {g : TG} {tt : TT} {te : TE} {vs : List Nat} {σ : St} {H1 : Hp} {D : Addr} {Qd : Hp → Prop} (Pv : Nat → Hp → Prop) (h0 : Pv 0 (upd H1 D (.lst [])))
    (hs : ∀ i H, i < n → Pv i H → g (.int (lo + i)) (wipe σ vs) H fun σ2 H2 => wipe σ2 vs = wipe σ vs ∧ tt σ2 H2 fun b H3 =>
      if b = true then te σ2 H3 fun y H4 => ∃ acc, H4 D = some (.lst acc) ∧ acc.length < sizeLine ∧ Pv (i + 1) (upd H4 D (.lst (acc ++ [y]))) else Pv (i + 1) H3) (hd : ∀ H, Pv n H → Qd H) :
    ∃ W : Nat → Nat → Hp → Prop, (∃ m, W 0 m (upd H1 D (.lst []))) ∧ ∀ i m H, W i m H →
      ((Itr lo n).stop i H ∧ Qd H) ∨ ((Itr lo n).go i H ∧ ∃ Nx : Hp → Prop, (∀ H', Nx H' → ∃ m', m' < m ∧ W (i + 1) m' H') ∧ ∀ x H', (Itr lo n).yld i H x H' → g x (wipe σ vs) H' fun σ2 H2 => wipe σ2 vs = wipe σ vs ∧ tt σ2 H2 fun b H3 =>
        if b = true then te σ2 H3 fun y H4 => ∃ acc, H4 D = some (.lst acc) ∧ acc.length < sizeLine ∧ Nx (upd H4 D (.lst (acc ++ [y]))) else Nx H3) := by
  refine ⟨fun i m H => m = n - i ∧ i ≤ n ∧ Pv i H, ⟨n, by simp, Nat.zero_le _, h0⟩, ?_⟩
  rintro i m H ⟨rfl, hi, p⟩
  by_cases hlt : i < n
  · refine .inr ⟨hlt, Pv (i + 1), fun H' p' => ⟨n - (i + 1), by omega, rfl, hlt, p'⟩, fun x H' y => ?_⟩
    obtain ⟨e, y⟩ := y
    subst e y
    exact hs i _ hlt p
  · have e : i = n := by omega
    subst e
    exact .inl ⟨Nat.le_refl _, hd H p⟩
/-- over a list that the block leaves as it is -/
theorem lc_list {K : PySem.W.Frag} {a : Addr} {xs : List V} {g : TG} {tt : TT} {te : TE} {vs : List Nat} {σ : St} {H1 : Hp} {D : Addr} {Qd : Hp → Prop} (Pv : Nat → Hp → Prop) (h0 : Pv 0 (upd H1 D (.lst []))) (hl : ∀ i H, i ≤ xs.length → Pv i H → SqL K H a xs)
    (hs : ∀ i x H, xs[i]? = some x → Pv i H → g x (wipe σ vs) H fun σ2 H2 => wipe σ2 vs = wipe σ vs ∧ tt σ2 H2 fun b H3 =>
      if b = true then te σ2 H3 fun y H4 => ∃ acc, H4 D = some (.lst acc) ∧ acc.length < sizeLine ∧ Pv (i + 1) (upd H4 D (.lst (acc ++ [y]))) else Pv (i + 1) H3) (hd : ∀ H, Pv xs.length H → Qd H) :
    ∃ W : Nat → Nat → Hp → Prop, (∃ m, W 0 m (upd H1 D (.lst []))) ∧ ∀ i m H, W i m H →
      ((Itl K a).stop i H ∧ Qd H) ∨ ((Itl K a).go i H ∧ ∃ Nx : Hp → Prop, (∀ H', Nx H' → ∃ m', m' < m ∧ W (i + 1) m' H') ∧ ∀ x H', (Itl K a).yld i H x H' → g x (wipe σ vs) H' fun σ2 H2 => wipe σ2 vs = wipe σ vs ∧ tt σ2 H2 fun b H3 =>
        if b = true then te σ2 H3 fun y H4 => ∃ acc, H4 D = some (.lst acc) ∧ acc.length < sizeLine ∧ Nx (upd H4 D (.lst (acc ++ [y]))) else Nx H3) := by
  refine ⟨fun i m H => m = xs.length - i ∧ i ≤ xs.length ∧ Pv i H, ⟨xs.length, by simp, Nat.zero_le _, h0⟩, ?_⟩
  rintro i m H ⟨rfl, hi, p⟩
  have q := hl i H hi p
  by_cases hlt : i < xs.length
  · refine .inr ⟨⟨xs, xs[i], q, by simp [hlt]⟩, Pv (i + 1), fun H' p' => ⟨xs.length - (i + 1), by omega, rfl, hlt, p'⟩, fun x H' y => ?_⟩
    obtain ⟨e, y⟩ := y
    subst e
    exact hs i x _ (y xs q) p
  · have e : i = xs.length := by omega
    subst e
    exact .inl ⟨⟨xs, q, Nat.le_refl _⟩, hd H p⟩
def blkC (N : List Str) (sc scope : Scope) (own : List (Str × Nat)) : Bool :=
  (match scope.kind with | .function => true | _ => false) && (scope.names.all fun y => decide (scope.names.lookup y.1 = some y.2)) && (own.all fun p => decide (N[p.2]? = some p.1)) &&
    (scope.names.all fun y => match y.2 with
      | .free => (match sc.names.lookup y.1 with | some .cell => true | some .free => true | _ => false)
      | .local => decide (y.1 ∈ own.map (·.1)) || decide (y.1 ∉ N)
      | .cell => decide (y.1 ∈ own.map (·.1)) || decide (y.1 ∉ N)
      | _ => true)
theorem blkOk_by {N : List Str} {sc scope : Scope} {own : List (Str × Nat)} (h : blkC N sc scope own = true) : BlkOk N sc scope own := by
  unfold blkC at h
  simp only [Bool.and_eq_true, List.all_eq_true, decide_eq_true_eq] at h
  obtain ⟨⟨⟨h1, h2⟩, h3⟩, h4⟩ := h
  refine ⟨?_, h2, h3, fun y hy e => ?_, fun y hy e => ?_⟩
  · split at h1
    · assumption
    · cases h1
  · have q := h4 y hy
    simp only [e] at q
    split at q <;> first | exact .inl (by assumption) | exact .inr (by assumption) | cases q
  · have q := h4 y hy
    rcases e with e | e <;> (simp only [e, Bool.or_eq_true, decide_eq_true_eq] at q; exact q)
end L2

namespace L2
open PySem PySem.Spec PyProof.Rows

section
variable {prog : Program} {w : World} {A : Around} {R : Result → Shared → Prop} {s : Shared} {elt t0 i0 t1 i1 : Expr} {ifs0 ifs1 : List Expr} {scope : Scope} {pos : Pos} {it acc : Value} {env : Env}
end

section
variable {X : Cx}
end
end L2

namespace L2
open PySem PySem.Spec PyProof.Rows

/-! ### lists of pairs as tables -/
section
variable {κ : Type} [DecidableEq κ]
end


/-! ### a tracked dict, its keys ints and texts or tuples of these -/
section
variable {P : Program} {w : World} {H : Hp} {h : Heap} {a : Addr}
end

section
variable {X : Cx} {pins : List (Addr × Obj)} {σ : St} {H : Hp} {s : Shared} {a : Addr} {y v : V} {u r : Value} {o : Option V} {A : Around} {E : Value → Shared → Prop}

end

section
variable {X : Cx} {pins : List (Addr × Obj)} {σ : St} {H : Hp} {s : Shared} {a : Addr} {kvs : List (Key × V)} {k : Key} {u : Value} {A : Around} {E : Value → Shared → Prop}
end


/-! ### readings and rules -/
section
variable {X : Cx} {o i e value : Expr} {pos pos' tpos : Pos} {td ty tv : TE}
end


/-! ### displays -/
section
variable {X : Cx} {pos : Pos}
end

/-! ### methods -/
section
variable {X : Cx} {pins : List (Addr × Obj)} {σ : St} {H : Hp} {s : Shared} {a : Addr} {y d : V} {u r : Value} {o : Option V} {A : Around} {E : Value → Shared → Prop}
end

section
variable {X : Cx} {o e f : Expr} {apos cpos : Pos} {td ty tx : TE}
end

/-! ### dict(d): a copy -/
section
variable {X : Cx} {pins : List (Addr × Obj)} {σ : St} {H : Hp} {s : Shared} {a : Addr} {kvs : List (Key × V)} {A : Around} {E : Value → Shared → Prop}
end


section
variable {X : Cx} {pins : List (Addr × Obj)} {σ : St} {H : Hp} {s : Shared} {a : Addr} {y : V} {u : Value} {A : Around} {E : Value → Shared → Prop}
end
end L2

namespace L2
open PySem PySem.Spec PyProof.Rows

section
variable {prog : Program} {w : World} {A : Around} {E : Value → Shared → Prop}
end

section
variable {X : Cx}
end
end L2

namespace L2
open PySem PySem.Spec PyProof.Rows

section
variable {X : Cx} {pins : List (Addr × Obj)} {σ : St} {H : Hp} {s : Shared} {h' : Heap}
/-! ### locking a thing while a statement runs -/
end
section
variable {X : Cx}
/-! ### one iterator just laid -/
end

/-! ### range with a step -/
section
variable {X : Cx} {tg : Expr}
end
/-! ### reversed(list) -/
section
variable {X : Cx} {tg : Expr}
end

/-! ### a str -/
/-! ### a dict's keys: any dict's entries -/
section
variable {prog : Program} {w : World} {A : Around} {E : Value → Shared → Prop} {s : Shared}
end

/-! ### a locked dict -/
section
variable {X : Cx} {pins : List (Addr × Obj)} {σ : St} {H : Hp} {s : Shared} {d : Addr} {o : Obj}
end

section
variable {P : Program} {w : World} {K : PySem.W.Frag} {tg : Expr} {d : Addr} {o : Obj} {es : Array DictEntry} {ep : Nat}
end

/-! ### for k in d, d.keys(), d.values(), d.items() -/
section
variable {X : Cx} {tg e : Expr} {td : TE} {apos cpos : Pos}
end

/-! ### enumerate(list) -/
/-! ### zip(list, list) -/
end L2

section 
namespace Bits
open PySem PyProof.Rows

end Bits
end 

section 
namespace TL
open PySem PySem.Builtin PySem.Builtin.Str PySem.StrLaws

/-! ### the list functions -/
/-! ### the model's split and partition are these -/
/-! ### computing spl and par -/
/-! ### digits -/
/-! ### words: x.split() -/
end TL
end 

namespace L2
open PySem PySem.Spec PyProof.Rows

section
variable {X : Cx} {pins : List (Addr × Obj)} {σ : St} {H : Hp} {s : Shared} {Q : VK}
end

section
variable {X : Cx}

/-! ### of a text alone -/
/-! ### of a text and a text -/
end

section
variable {X : Cx} {o e : Expr} {to te : TE}
end
end L2

namespace L2
open PySem PySem.Spec PyProof.Rows

section
variable {X : Cx}
end

/-! ### slices of a text -/
end L2

namespace Att
open PySem PySem.W PySem.Calls PyProof.Rows

/-! ### the script -/
/-! ### the attachment: holds_open's last premise (the goal 'hc' behind k_head) from a wpAny of the law's body -/
/-! ### rules over ANY heap (no ledger) from facts about the written part K: the library's own take a ledger (News) for what they write -/
section
variable {prog : Program} {w : World} {A : Around} {E : Value → Shared → Prop} {s : Shared} {K : Frag}

/-! the whole heap as the ledger: makes every rule that writes through a ledger a rule over any heap -/
end
end Att

namespace L2
open PySem PySem.Spec PyProof.Rows

end L2

namespace L2
open PySem PySem.Spec PyProof.Rows

abbrev KOf {K : PySem.W.Frag} {h : Heap} (_ : K.In h) : PySem.W.Frag := K

end L2

/- THE LAST THEOREM (shape; LID, My.* are yours):
   My.Adr: a structure of the addresses that your layer names (classes, functions); My.Txt K t: a structure (Prop) of the equations over K;
   My.txt_mk : {K} {implicit addresses ..} (e1 : nsIn K mainGlobals "law" = some (some (.ref f))) (e2 : K.lookup f = some ⟨oc, od, .func (fnOf "law" "law" params body scope dV kV doc pm an cdv ct), sl⟩) (e3 : codeIn K cdv "law" = true) .. : ∃ t, My.Txt K t

set_option maxRecDepth 100000 in
set_option maxHeartbeats 0 in
theorem PySem.Challenge.cw_LID_holds : PySem.Challenge.rw_LID.Holds := by
  w_on; o_law; k_head; (case hw => w_witness2)
  k_fill
  refine L2.walk_of (l := PySem.Challenge.rw_LID) (n := 63) (k := 40) (x := "script") (CX := fun w => ..) (sp := fun _ => My.sp_law) rfl (by decide) rfl ⟨rfl, by decide, by decide⟩ (fun w h Y => PySem.W.kIn_of Y) ?F ?S ?C
  case F =>
    intro w mg fa h KX G hmg
    have T : ∃ t, My.Txt (L2.KOf KX) t := by
      dsimp only [L2.KOf]                          -- K must stand as «<heap const> w.params» for k_is
      refine' My.txt_mk ?e1 ?e2 ?e3 ..
      (case e1 => PySem.W.k_is)                    -- in the order: a name -> its address -> its object -> its parts
      (case e2 => PySem.W.k_is)
      ..
    obtain ⟨t, T⟩ := T
    have e0 := hmg.symm.trans (PySem.W.mg_of KX G T.law)
    cases e0                                       -- fa is the law's own address
    exact ⟨_, fun s u => .of_eq rfl, fun base kb nb => My.law_fn T kb nb⟩     -- if «.of_eq rfl» comes too early: refine' ⟨_, ?b, fun base kb nb => My.law_fn T kb nb⟩; exact fun s u => .of_eq rfl
  case S => exact fun w H a ns hl hO hS => ..
  case C => exact ..
(the tactic k_is has no namespace: write k_is) -/

/-! SHORT WORDS over the layer: a def of the text, its body, what a loop and a test want. -/
namespace L2
open PySem PySem.Spec PyProof.Rows

/-! ### the text by places -/
/-- the j-th statement of a class's body -/
def inClass (s : Stmt) (j : Nat) : Stmt := match s with
  | .ClassDef _ _ _ body _ _ _ _ _ _ _ => body.getD j (.Pass ⟨0, 0, 0, 0⟩)
  | _ => .Pass ⟨0, 0, 0, 0⟩
def defArgs (s : Stmt) : Arguments := match s with
  | .FunctionDef _ a _ _ _ _ _ _ _ _ => a
  | _ => { posonlyargs := [], args := [], vararg := none, kwonlyargs := [], kw_defaults := [], kwarg := none, defaults := [] }
def defBody (s : Stmt) : List Stmt := match s with
  | .FunctionDef _ _ b _ _ _ _ _ _ _ => b
  | _ => []
def defScope (s : Stmt) : Scope := match s with
  | .FunctionDef _ _ _ _ _ _ sc _ _ _ => sc
  | _ => { kind := .function, names := [], isGenerator := false, isCoroutine := false }

/-! ### no exception leaves a def -/
abbrev CX0 : CXT := fun _ _ _ _ _ _ => False
abbrev E0 : XK := fun _ _ _ => False
theorem pass0 {X : Cx} : Passes CX0 X E0 := fun _ _ _ _ _ _ _ h => h.elim

/-! ### a def (or method) of the text as it stands behind the top -/
structure Fun (K : PySem.W.Frag) (x qual : Str) (st : Stmt) (f : Addr) (fd : FuncData) : Prop where
  ex : ∃ (oc : Value) (od : Option Addr) (kV doc pm : Value) (an : Option Addr) (cdv ct : Value) (osl : Array (Option Value)),
    fd = PySem.W.fnOf x qual (defArgs st) (defBody st) (defScope st) .none kV doc pm an cdv ct ∧ K.lookup f = some ⟨oc, od, .func fd, osl⟩ ∧ PySem.W.codeIn K cdv qual = true
  kp : PySem.W.keepIn K (.ref f) = true
section
variable {P : Program} {w : World} {K : PySem.W.Frag} {mg : Str → Option Value} {base : Heap}
/-- THE RULE for a def: its body as a term of rules, and the reading of that term -/
theorem Fun.ok {x qual : Str} {st : Stmt} {f : Addr} {fd : FuncData} {N ps : List Str} {k : Nat} {sp : Sp} (F : Fun K x qual st f fd) (S : FnScope N ps (defScope st)) (len : ∀ vs H Q E, sp vs H Q E → vs.length = ps.length)
    (hbody : ∀ (cdv : Value) (A : Around) (outer : List Env) (s : Shared) (H : Hp) (vs : List V) (Q : VK) (E : XK), Room k (A.deeper (envOfC qual (defScope st) s.heap.objs.size f cdv)) → sp vs H Q E →
      ∃ t, PSs (cxOf CX0 P w K mg base N qual (defScope st) f cdv A outer s H E).nox (defBody st) t ∧ t { nx := fun _ H' => Q .non H', rt := Q } (start N vs) H) : FnOk P w K mg base CX0 (k + 1) f fd ps sp := by
  obtain ⟨oc, od, kV, doc, pm, an, cdv, ct, osl, rfl, lk, hcd⟩ := F.ex
  refine fn_of lk hcd S len fun A outer s H vs Q E hr hsp => ?_
  obtain ⟨t, h, q⟩ := hbody cdv A outer s H vs Q E hr hsp
  exact ⟨t, h.nox, q⟩
/-- how its arguments bind (no defaults): h is «fun _ _ _ _ _ _ us hl => match us, hl with | [_, _], _ => rfl», one _ a parameter -/
theorem Fun.binds {x qual : Str} {st : Stmt} {f : Addr} {fd : FuncData} {ps : List Str} (F : Fun K x qual st f fd)
    (h : ∀ (kV doc pm : Value) (an : Option Addr) (cdv ct : Value) (us : List Value), us.length = ps.length → bindArgs (PySem.W.fnOf x qual (defArgs st) (defBody st) (defScope st) .none kV doc pm an cdv ct) ⟨us, []⟩ = pure (ps.zip us)) : Binds K fd ps [] := by
  obtain ⟨oc, od, kV, doc, pm, an, cdv, ct, osl, rfl, lk, hcd⟩ := F.ex
  exact .all (h kV doc pm an cdv ct)
theorem fun_mk {x qual : Str} {st : Stmt} {f : Addr} {oc : Value} {od an : Option Addr} {osl : Array (Option Value)} {kV doc pm cdv ct : Value} (l : K.lookup f = some ⟨oc, od, .func (PySem.W.fnOf x qual (defArgs st) (defBody st) (defScope st) .none kV doc pm an cdv ct), osl⟩)
    (c : PySem.W.codeIn K cdv qual = true) (k : PySem.W.keepIn K (.ref f) = true) : Fun K x qual st f (PySem.W.fnOf x qual (defArgs st) (defBody st) (defScope st) .none kV doc pm an cdv ct) := ⟨⟨oc, od, kV, doc, pm, an, cdv, ct, osl, rfl, l, c⟩, k⟩
end
/-! ### expressions in short: the name that stands in the i-th slot -/
section
variable {X : Cx}
theorem pv (i : Nat) {x : Str} {pos : Pos} (hN : X.N[i]? = some x := by rfl) (hv : Vis X.env.scope x := by first | exact Or.inl rfl | exact Or.inr (Or.inl rfl) | exact Or.inr (Or.inr rfl)) (hd : (x == ("__debug__" : Str)) = false := by decide)
    (hcd : (x == ("__classdict__" : Str)) = false := by decide) : PE X (.Name x pos) (tVar i) := pe_var hN hv hd hcd
end

/-! ### tests -/
theorem iteF {A B : Prop} (h : B) : if false = true then A else B := by
  rw [if_neg Bool.false_ne_true]
  exact h
theorem iteT {A B : Prop} (h : A) : if true = true then A else B := by
  rw [if_pos rfl]
  exact h
theorem ite2 {c A B : Prop} [Decidable c] (h1 : c → A) (h2 : ¬ c → B) : if c then A else B := by
  by_cases h : c
  · rw [if_pos h]
    exact h1 h
  · rw [if_neg h]
    exact h2 h
/-! ### heaps -/
/-- all that was tracked is as it was -/
def Same (H H' : Hp) : Prop := ∀ b o, H b = some o → H' b = some o
theorem Same.refl (H : Hp) : Same H H := fun _ _ h => h
theorem Same.trans {H H1 H2 : Hp} (a : Same H H1) (b : Same H1 H2) : Same H H2 := fun c o h => b c o (a c o h)
theorem Same.free {H H' : Hp} (e : Same H H') {l : Addr} (h : H' l = Option.none) : H l = Option.none := by
  cases q : H l with
  | none => rfl
  | some o =>
    rw [e l o q] at h
    cases h
theorem Same.seq {K : PySem.W.Frag} {H H' : Hp} {a : Addr} {xs : List V} (e : Same H H') (h : SqL K H a xs) : SqL K H' a xs := by
  rcases h with (h | ⟨o, h⟩) | h
  · exact .inl (.inl (e _ _ h))
  · exact .inl (.inr ⟨o, e _ _ h⟩)
  · exact .inr h

/-! ### a dict's pairs: keys that differ -/
section
variable {κ : Type} [DecidableEq κ]
end
/-! ### lists -/
theorem at_of {xs : List V} {z : Int} {j : Nat} {v : V} (e : z = (j : Int)) (h : xs[j]? = some v) : atI xs z = some v := by
  rw [e]
  exact atI_nat h
/-- a new instance and its __init__ leave all that was tracked as it was -/
theorem Same.made {H H1 : Hp} {x dx C : Addr} (nx : H x = Option.none) (nd : H dx = Option.none) (k : ∀ b o, (upd (upd H dx (.own x)) x (.ins C dx [])) b = some o → b ≠ x → H1 b = some o) : Same H H1 := fun b o e =>
  k b o (by rw [upd_ne (ne_of_none e nx), upd_ne (ne_of_none e nd)]; exact e) (ne_of_none e nx)
end L2

namespace L2
open PySem PySem.Spec PyProof.Rows
open PySem.W (WData Codec OpenSpec Well WellAll ReadsW ReadsAllW)
/-! ### an answer as data -/
mutual
/-- x stands for the datum d, lists and tuples all the way -/
inductive Dw (K : PySem.W.Frag) (H : Hp) : V → WData → Prop
  | non : Dw K H .non .none
  | bl (b : Bool) : Dw K H (.bl b) (.bool b)
  | int (i : Int) : Dw K H (.int i) (.int i)
  | str (x : Str) : Dw K H (.str x) (.str x)
  | byt (b : Array UInt8) : Dw K H (.byt b) (.bytes b.toList)
  | lst {a : Addr} {xs : List V} {ds : List WData} : SqL K H a xs → DwAll K H xs ds → Dw K H (.ref a) (.list ds)
  | tup {a : Addr} {xs : List V} {ds : List WData} : SqT K H a xs → DwAll K H xs ds → Dw K H (.ref a) (.tuple ds)
inductive DwAll (K : PySem.W.Frag) (H : Hp) : List V → List WData → Prop
  | nil : DwAll K H [] []
  | cons {v : V} {vs : List V} {d : WData} {ds : List WData} : Dw K H v d → DwAll K H vs ds → DwAll K H (v :: vs) (d :: ds)
end
theorem dw_ints {K : PySem.W.Frag} {H : Hp} : ∀ ns : List Int, DwAll K H (ns.map V.int) (ns.map WData.int)
  | [] => .nil
  | n :: r => .cons (.int n) (dw_ints r)
theorem ints_dw {K : PySem.W.Frag} {H : Hp} : ∀ (ns : List Int) (xs : List V), DwAll K H xs (ns.map WData.int) → xs = ns.map V.int
  | [], xs, h => by
    cases h
    rfl
  | n :: r, xs, h => by
    cases h with
    | cons h1 h2 =>
      cases h1
      rw [ints_dw r _ h2] <;> rfl
section
variable {P : Program} {w : World} {K : PySem.W.Frag} {H : Hp} {h : Heap} {R : PySem.W.WRecords} {cl : Str → Option Addr}
theorem sqL_at {a : Addr} {xs : List V} (hok : HOk P w H h) (KX : K.In h) (q : SqL K H a xs) : ∃ (its : List Value) (o : Obj) (n : Nat), Vals xs its ∧ h.get? a = some o ∧ o.cls = .type "list" ∧ o.data = .seq its.toArray n := by
  rcases q with q | ⟨o, its, n, e, hc, _, hd, _, hv⟩
  · obtain ⟨_, its, n, hv, e⟩ := (show ObjOk P w H h a (.lst xs) from q.ok hok)
    exact ⟨its, _, n, hv, e, rfl, rfl⟩
  · exact ⟨its.toList, o, n, hv, KX _ _ e, hc, by simp [hd]⟩
theorem sqT_at {a : Addr} {xs : List V} (hok : HOk P w H h) (KX : K.In h) (q : SqT K H a xs) : ∃ (its : List Value) (o : Obj) (n : Nat), Vals xs its ∧ h.get? a = some o ∧ o.cls = .type "tuple" ∧ o.data = .seq its.toArray n := by
  rcases q with q | ⟨o, its, n, e, hc, hd, _, hv⟩
  · obtain ⟨_, its, hv, o, e, hc, n, hd⟩ := (show ObjOk P w H h a (.tup xs) from q.ok hok)
    exact ⟨its, o, n, hv, e, hc, hd⟩
  · exact ⟨its.toList, o, n, hv, KX _ _ e, hc, by simp [hd]⟩
mutual
theorem Dw.reads (hok : HOk P w H h) (KX : K.In h) : ∀ (d : WData) (v : V) (u : Value), Dw K H v d → RelV v u → ∃ as, ReadsW R cl h u d as
  | .none, _, _, x, r => by
    cases x
    cases r
    exact ⟨_, ReadsW.none⟩
  | .bool b, _, _, x, r => by
    cases x
    cases r
    exact ⟨_, ReadsW.bool b⟩
  | .int i, _, _, x, r => by
    cases x
    obtain ⟨t, rfl⟩ := r
    exact ⟨_, ReadsW.int i t⟩
  | .str s, _, _, x, r => by
    cases x
    obtain ⟨t, rfl⟩ := r
    exact ⟨_, ReadsW.str s t⟩
  | .bytes b, _, _, x, r => by
    cases x
    obtain ⟨t, rfl⟩ := r
    exact ⟨_, ReadsW.bytes _ t⟩
  | .list ds, _, _, x, r => by
    cases x with
    | lst hs ha =>
      cases r
      obtain ⟨its, o, n, rv, ho, hc, hd⟩ := sqL_at hok KX hs
      obtain ⟨as, hr⟩ := Dw.readsAll hok KX ds _ its ha rv
      exact ⟨_, ReadsW.list ho hc hd hr⟩
  | .tuple ds, _, _, x, r => by
    cases x with
    | tup hs ha =>
      cases r
      obtain ⟨its, o, n, rv, ho, hc, hd⟩ := sqT_at hok KX hs
      obtain ⟨as, hr⟩ := Dw.readsAll hok KX ds _ its ha rv
      exact ⟨_, ReadsW.tuple ho hc hd hr⟩
  | .float _, _, _, x, _ => by cases x
  | .dict _, _, _, x, _ => by cases x
  | .bytearray _, _, _, x, _ => by cases x
  | .set _, _, _, x, _ => by cases x
  | .frozenset _, _, _, x, _ => by cases x
  | .obj _ _, _, _, x, _ => by cases x
theorem Dw.readsAll (hok : HOk P w H h) (KX : K.In h) : ∀ (ds : List WData) (vs : List V) (us : List Value), DwAll K H vs ds → Vals vs us → ∃ as, ReadsAllW R cl h us ds as
  | [], _, _, x, r => by
    cases x
    cases r
    exact ⟨_, ReadsAllW.nil⟩
  | d :: ds, _, _, x, r => by
    cases x with
    | cons h1 h2 =>
      cases r with
      | cons r1 r2 =>
        obtain ⟨as, q1⟩ := Dw.reads hok KX d _ _ h1 r1
        obtain ⟨bs, q2⟩ := Dw.readsAll hok KX ds _ _ h2 r2
        exact ⟨_, ReadsAllW.cons q1 q2⟩
end
end
/-! ### the arguments -/
mutual
/-- data that a codec tells -/
def plW : WData → Bool
  | .none => true
  | .bool _ => true
  | .int _ => true
  | .str _ => true
  | .bytes _ => true
  | .list xs => plWs xs
  | .tuple xs => plWs xs
  | _ => false
def plWs : List WData → Bool
  | [] => true
  | x :: r => plW x && plWs r
end
theorem plWs_map {α : Type} {f : α → WData} (h : ∀ a, plW (f a) = true) : ∀ l : List α, plWs (l.map f) = true
  | [] => rfl
  | x :: r => by
    show (plW (f x) && plWs (r.map f)) = true
    rw [h x, plWs_map h r] <;> rfl
theorem pl_enc : ∀ (c : Codec) (a : c.denote), plW (c.enc a) = true
  | .unit, _ => rfl
  | .bool, _ => rfl
  | .int _ _, _ => rfl
  | .nat _ _, _ => rfl
  | .u8, _ => rfl
  | .bytes _ _, _ => rfl
  | .text _ _ _ _, _ => rfl
  | .list _ _ c, a => plWs_map (fun x => pl_enc c x) a
  | .pair c d, a => by
    show (plW (c.enc a.1) && (plW (d.enc a.2) && true)) = true
    rw [pl_enc c a.1, pl_enc d a.2] <;> rfl
  | .triple c d e, a => by
    show (plW (c.enc a.1) && (plW (d.enc a.2.1) && (plW (e.enc a.2.2) && true))) = true
    rw [pl_enc c a.1, pl_enc d a.2.1, pl_enc e a.2.2] <;> rfl
  | .option c, none => rfl
  | .option c, some x => pl_enc c x
theorem pl_encAll : ∀ (cs : List Codec) (a : Codec.denoteAll cs), plWs (Codec.encAll cs a) = true
  | [], _ => rfl
  | c :: cs, a => by
    show (plW (c.enc a.1) && plWs (Codec.encAll cs a.2)) = true
    rw [pl_enc c a.1, pl_encAll cs a.2] <;> rfl
theorem weight_mem : ∀ {xs : List WData} {d : WData}, d ∈ xs → d.weight ≤ WData.weightAll xs
  | [], d, h => absurd h (by simp)
  | x :: r, d, h => by
    show d.weight ≤ x.weight + 1 + WData.weightAll r
    rcases List.mem_cons.mp h with e | m
    · rw [e]
      omega
    · have z := weight_mem m
      omega
def toV : Value → V
  | .none => .non
  | .bool b => .bl b
  | .int i _ => .int i
  | .str x _ => .str x
  | .bytes b _ => .byt b
  | .ref a => .ref a
  | _ => .non
/-- a value of the arguments, its objects among A -/
def OkU (A : List Addr) : Value → Prop
  | .none => True
  | .bool _ => True
  | .int _ _ => True
  | .str _ _ => True
  | .bytes _ _ => True
  | .ref a => a ∈ A
  | _ => False
theorem OkU.mono {A B : List Addr} (h : ∀ a ∈ A, a ∈ B) : ∀ {u : Value}, OkU A u → OkU B u := fun {u} x => by
  cases u with
  | ref a => exact h a x
  | none => trivial
  | bool b => trivial
  | int i t => trivial
  | str s t => trivial
  | bytes b t => trivial
  | _ => exact False.elim x
theorem relV_toV {A : List Addr} {u : Value} (x : OkU A u) : RelV (toV u) u := by
  cases u with
  | ref a => rfl
  | none => rfl
  | bool b => rfl
  | int i t => exact ⟨t, rfl⟩
  | str s t => exact ⟨t, rfl⟩
  | bytes b t => exact ⟨t, rfl⟩
  | _ => exact False.elim x
theorem vals_toV {A : List Addr} : ∀ {vs : List Value}, (∀ u ∈ vs, OkU A u) → Vals (vs.map toV) vs
  | [], _ => .nil
  | u :: r, h => .cons (relV_toV (h u (List.mem_cons_self ..))) (vals_toV fun x hx => h x (List.mem_cons_of_mem _ hx))
/-- an object of the arguments -/
def ArgOb (h : Heap) (A : List Addr) (a : Addr) : Prop := ∃ vs : List Value, vs.length ≤ sizeLine ∧ (∀ u ∈ vs, OkU A u) ∧
  (h.get? a = some { cls := .type "list", data := .seq vs.toArray } ∨ h.get? a = some { cls := .type "tuple", data := .seq vs.toArray })
theorem ArgOb.mono {h : Heap} {A B : List Addr} {a : Addr} (k : ∀ a ∈ A, a ∈ B) (x : ArgOb h A a) : ArgOb h B a := by
  obtain ⟨vs, h1, h2, h3⟩ := x
  exact ⟨vs, h1, fun u hu => (h2 u hu).mono k, h3⟩
theorem wellAll_len {P : Params} {h : Heap} : ∀ {vs : List Value} {ds : List WData}, WellAll P h vs ds → vs.length = ds.length
  | _, _, .nil => rfl
  | _, _, .cons _ b => by
    show _ + 1 = _ + 1
    rw [wellAll_len b]
theorem well_list {P : Params} {h : Heap} {v : Value} {ds : List WData} (x : Well P h v (.list ds)) : ∃ (a : Addr) (vs : List Value), v = .ref a ∧ h.get? a = some { cls := .type "list", data := .seq vs.toArray } ∧ WellAll P h vs ds := by
  cases x with
  | list ho hall => exact ⟨_, _, rfl, ho, hall⟩
theorem well_tuple {P : Params} {h : Heap} {v : Value} {ds : List WData} (x : Well P h v (.tuple ds)) : ∃ (a : Addr) (vs : List Value), v = .ref a ∧ h.get? a = some { cls := .type "tuple", data := .seq vs.toArray } ∧ WellAll P h vs ds := by
  cases x with
  | tuple ho hall => exact ⟨_, _, rfl, ho, hall⟩
theorem well_cons {P : Params} {h : Heap} {us : List Value} {d : WData} {ds : List WData} (x : WellAll P h us (d :: ds)) : ∃ (v : Value) (vs : List Value), us = v :: vs ∧ Well P h v d ∧ WellAll P h vs ds := by
  cases x with
  | cons a b => exact ⟨_, _, rfl, a, b⟩
theorem line_of {n : Nat} (h : n ≤ 1048576) : n ≤ sizeLine := Nat.le_trans h (by decide)
section
variable {P : Params} {h : Heap}
mutual
theorem area_one : ∀ (d : WData) (v : Value), Well P h v d → plW d = true → d.weight ≤ 1048576 → ∃ A : List Addr, OkU A v ∧ ∀ a ∈ A, ArgOb h A a
  | .none, _, x, _, _ => by
    cases x
    exact ⟨[], trivial, fun a m => absurd m (by simp)⟩
  | .bool b, _, x, _, _ => by
    cases x
    exact ⟨[], trivial, fun a m => absurd m (by simp)⟩
  | .int i, _, x, _, _ => by
    cases x
    exact ⟨[], trivial, fun a m => absurd m (by simp)⟩
  | .str s, _, x, _, _ => by
    cases x
    exact ⟨[], trivial, fun a m => absurd m (by simp)⟩
  | .bytes b, _, x, _, _ => by
    cases x
    exact ⟨[], trivial, fun a m => absurd m (by simp)⟩
  | .list ds, _, x, p, z => by
    obtain ⟨a, vs, rfl, ho, hall⟩ := well_list x
    have z2 : WData.weightAll ds ≤ 1048576 := z
    obtain ⟨A, h1, h2⟩ := area_all ds _ hall p fun d hd => Nat.le_trans (weight_mem hd) z2
    have k : ∀ b ∈ A, b ∈ a :: A := fun b hb => List.mem_cons_of_mem _ hb
    refine ⟨a :: A, List.mem_cons_self .., fun b hb => ?_⟩
    rcases List.mem_cons.mp hb with e | m
    · rw [e]
      exact ⟨vs, line_of (by rw [wellAll_len hall]; exact Nat.le_trans (PySem.W.length_le_weightAllW ds) z2), fun u hu => (h1 u hu).mono k, .inl ho⟩
    · exact (h2 b m).mono k
  | .tuple ds, _, x, p, z => by
    obtain ⟨a, vs, rfl, ho, hall⟩ := well_tuple x
    have z2 : WData.weightAll ds ≤ 1048576 := z
    obtain ⟨A, h1, h2⟩ := area_all ds _ hall p fun d hd => Nat.le_trans (weight_mem hd) z2
    have k : ∀ b ∈ A, b ∈ a :: A := fun b hb => List.mem_cons_of_mem _ hb
    refine ⟨a :: A, List.mem_cons_self .., fun b hb => ?_⟩
    rcases List.mem_cons.mp hb with e | m
    · rw [e]
      exact ⟨vs, line_of (by rw [wellAll_len hall]; exact Nat.le_trans (PySem.W.length_le_weightAllW ds) z2), fun u hu => (h1 u hu).mono k, .inr ho⟩
    · exact (h2 b m).mono k
  | .float _, _, _, p, _ => Bool.noConfusion (show false = true from p)
  | .dict _, _, _, p, _ => Bool.noConfusion (show false = true from p)
  | .bytearray _, _, _, p, _ => Bool.noConfusion (show false = true from p)
  | .set _, _, _, p, _ => Bool.noConfusion (show false = true from p)
  | .frozenset _, _, _, p, _ => Bool.noConfusion (show false = true from p)
  | .obj _ _, _, _, p, _ => Bool.noConfusion (show false = true from p)
theorem area_all : ∀ (ds : List WData) (vs : List Value), WellAll P h vs ds → plWs ds = true → (∀ d ∈ ds, d.weight ≤ 1048576) → ∃ A : List Addr, (∀ u ∈ vs, OkU A u) ∧ ∀ a ∈ A, ArgOb h A a
  | [], _, x, _, _ => by
    cases x
    exact ⟨[], fun u m => absurd m (by simp), fun a m => absurd m (by simp)⟩
  | d :: ds, _, x, p, z => by
    obtain ⟨v, vs, rfl, x1, x2⟩ := well_cons x
    have q : plW d = true ∧ plWs ds = true := Bool.and_eq_true_iff.mp p
    obtain ⟨A, a1, a2⟩ := area_one d v x1 q.1 (z d (List.mem_cons_self ..))
    obtain ⟨B, b1, b2⟩ := area_all ds vs x2 q.2 fun e he => z e (List.mem_cons_of_mem _ he)
    have kA : ∀ b ∈ A, b ∈ A ++ B := fun b hb => List.mem_append.mpr (.inl hb)
    have kB : ∀ b ∈ B, b ∈ A ++ B := fun b hb => List.mem_append.mpr (.inr hb)
    refine ⟨A ++ B, fun u hu => ?_, fun b hb => ?_⟩
    · rcases List.mem_cons.mp hu with e | m
      · rw [e]
        exact a1.mono kA
      · exact (b1 u m).mono kB
    · rcases List.mem_append.mp hb with m | m
      · exact (a2 b m).mono kA
      · exact (b2 b m).mono kB
end
end
/-- what is tracked of an argument's object -/
def hoOf (o : Obj) : Option HO := match o.data with
  | .seq vs _ => if (o.cls == Value.type "list") = true then some (.frz o (.lst (vs.toList.map toV))) else some (.frz o (.tup (vs.toList.map toV)))
  | _ => none
def argH (K : PySem.W.Frag) (h : Heap) (A : List Addr) : Hp := fun b => if b ∈ A then (if (K.lookup b).isNone = true then (h.get? b).bind hoOf else none) else none
/-- nothing is tracked but what is known to the object -/
def OnlyF (H : Hp) : Prop := ∀ b, H b = none ∨ ∃ o u, H b = some (.frz o u)
theorem hoOf_lst (vs : List Value) : hoOf { cls := .type "list", data := .seq vs.toArray } = some (.frz { cls := .type "list", data := .seq vs.toArray } (.lst (vs.map toV))) := by
  show (if (Value.type "list" == Value.type "list") = true then some (HO.frz { cls := .type "list", data := .seq vs.toArray } (.lst (vs.toArray.toList.map toV))) else some (HO.frz { cls := .type "list", data := .seq vs.toArray } (.tup (vs.toArray.toList.map toV)))) = _
  rw [if_pos (beq_self_eq_true _)]
theorem hoOf_tup (vs : List Value) : hoOf { cls := .type "tuple", data := .seq vs.toArray } = some (.frz { cls := .type "tuple", data := .seq vs.toArray } (.tup (vs.map toV))) := by
  show (if (Value.type "tuple" == Value.type "list") = true then some (HO.frz { cls := .type "tuple", data := .seq vs.toArray } (.lst (vs.toArray.toList.map toV))) else some (HO.frz { cls := .type "tuple", data := .seq vs.toArray } (.tup (vs.toArray.toList.map toV)))) = _
  rw [if_neg (by decide)]
section
variable {P : Program} {w : World} {K : PySem.W.Frag} {h : Heap} {A : List Addr}
theorem argH_at {b : Addr} {o : Obj} (hb : b ∈ A) (hk : K.lookup b = none) (e : h.get? b = some o) : argH K h A b = hoOf o := by
  unfold argH
  rw [if_pos hb, hk, if_pos (show (none : Option Obj).isNone = true from rfl), e] <;> rfl
theorem of_argH {b : Addr} {u : HO} (q : argH K h A b = some u) : b ∈ A ∧ K.lookup b = none := by
  unfold argH at q
  by_cases hb : b ∈ A
  · rw [if_pos hb] at q
    cases hk : K.lookup b with
    | none => exact ⟨hb, rfl⟩
    | some o =>
      rw [hk, if_neg (by simp)] at q
      cases q
  · rw [if_neg hb] at q
    cases q
/-- what stands tracked -/
theorem argH_is (ar : ∀ a ∈ A, ArgOb h A a) {b : Addr} {u : HO} (q : argH K h A b = some u) : K.lookup b = none ∧ ∃ vs : List Value, vs.length ≤ sizeLine ∧ (∀ u ∈ vs, OkU A u) ∧
    ((h.get? b = some { cls := .type "list", data := .seq vs.toArray } ∧ u = .frz { cls := .type "list", data := .seq vs.toArray } (.lst (vs.map toV))) ∨
     (h.get? b = some { cls := .type "tuple", data := .seq vs.toArray } ∧ u = .frz { cls := .type "tuple", data := .seq vs.toArray } (.tup (vs.map toV)))) := by
  obtain ⟨hb, hk⟩ := of_argH q
  obtain ⟨vs, h1, h2, h3⟩ := ar b hb
  refine ⟨hk, vs, h1, h2, ?_⟩
  rcases h3 with e | e
  · rw [argH_at hb hk e, hoOf_lst] at q
    exact .inl ⟨e, (Option.some.inj q).symm⟩
  · rw [argH_at hb hk e, hoOf_tup] at q
    exact .inr ⟨e, (Option.some.inj q).symm⟩
theorem argH_only (ar : ∀ a ∈ A, ArgOb h A a) : OnlyF (argH K h A) := fun b => by
  cases q : argH K h A b with
  | none => exact .inl rfl
  | some u =>
    obtain ⟨_, vs, _, _, ⟨_, e⟩ | ⟨_, e⟩⟩ := argH_is ar q
    · exact .inr ⟨_, _, by rw [e]⟩
    · exact .inr ⟨_, _, by rw [e]⟩
theorem argH_ok (ar : ∀ a ∈ A, ArgOb h A a) : HOk P w (argH K h A) h := fun b u q => by
  obtain ⟨_, vs, h1, h2, ⟨e, rfl⟩ | ⟨e, rfl⟩⟩ := argH_is ar q
  · exact ⟨e, by rw [List.length_map]; exact h1, vs, _, vals_toV h2, e⟩
  · exact ⟨e, by rw [List.length_map]; exact h1, vs, vals_toV h2, _, e, rfl, _, rfl⟩
theorem seq_inj {c c' : Value} {vs us : List Value} (e : (some { cls := c, data := .seq vs.toArray } : Option Obj) = some { cls := c', data := .seq us.toArray }) : c = c' ∧ vs = us := by
  have e1 := Option.some.inj e
  have e2 : c = c' := congrArg Obj.cls e1
  have e3 : Data.seq vs.toArray = Data.seq us.toArray := congrArg Obj.data e1
  injection e3 with e4
  refine ⟨e2, ?_⟩
  have e5 := congrArg Array.toList e4
  simpa using e5
/-- a list argument -/
theorem argL (KX : K.In h) (ar : ∀ a ∈ A, ArgOb h A a) {a : Addr} {vs : List Value} (ha : a ∈ A) (e : h.get? a = some { cls := .type "list", data := .seq vs.toArray }) : (∀ u ∈ vs, OkU A u) ∧ SqL K (argH K h A) a (vs.map toV) := by
  obtain ⟨us, h1, h2, h3⟩ := ar a ha
  have hu : us = vs := by
    rcases h3 with q | q
    · rw [e] at q
      exact (seq_inj q).2.symm
    · rw [e] at q
      exact absurd (Value.type.inj (seq_inj q).1) (by decide)
  subst hu
  refine ⟨h2, ?_⟩
  cases hk : K.lookup a with
  | none => exact .inl (.inr ⟨_, by rw [argH_at ha hk e, hoOf_lst]⟩)
  | some o =>
    have e2 := KX a o hk
    rw [e] at e2
    obtain rfl := Option.some.inj e2
    exact .inr ⟨_, us.toArray, _, hk, rfl, rfl, rfl, by rw [List.size_toArray]; exact h1, by simpa using vals_toV h2⟩
theorem argT (KX : K.In h) (ar : ∀ a ∈ A, ArgOb h A a) {a : Addr} {vs : List Value} (ha : a ∈ A) (e : h.get? a = some { cls := .type "tuple", data := .seq vs.toArray }) : (∀ u ∈ vs, OkU A u) ∧ SqT K (argH K h A) a (vs.map toV) := by
  obtain ⟨us, h1, h2, h3⟩ := ar a ha
  have hu : us = vs := by
    rcases h3 with q | q
    · rw [e] at q
      exact absurd (Value.type.inj (seq_inj q).1) (by decide)
    · rw [e] at q
      exact (seq_inj q).2.symm
  subst hu
  refine ⟨h2, ?_⟩
  cases hk : K.lookup a with
  | none => exact .inl (.inr ⟨_, by rw [argH_at ha hk e, hoOf_tup]⟩)
  | some o =>
    have e2 := KX a o hk
    rw [e] at e2
    obtain rfl := Option.some.inj e2
    exact .inr ⟨_, us.toArray, _, hk, rfl, rfl, by rw [List.size_toArray]; exact h1, by simpa using vals_toV h2⟩
mutual
theorem dw_one {Pm : Params} (KX : K.In h) (ar : ∀ a ∈ A, ArgOb h A a) : ∀ (d : WData) (v : Value), Well Pm h v d → plW d = true → OkU A v → Dw K (argH K h A) (toV v) d
  | .none, _, x, _, _ => by
    cases x
    exact .non
  | .bool b, _, x, _, _ => by
    cases x
    exact .bl b
  | .int i, _, x, _, _ => by
    cases x
    exact .int i
  | .str s, _, x, _, _ => by
    cases x
    exact .str s
  | .bytes b, _, x, _, _ => by
    cases x
    have z := Dw.byt (K := K) (H := argH K h A) b.toArray
    exact z
  | .list ds, _, x, p, hu => by
    obtain ⟨a, vs, rfl, ho, hall⟩ := well_list x
    obtain ⟨h2, hs⟩ := argL KX ar hu ho
    exact .lst hs (dw_all KX ar ds _ hall p h2)
  | .tuple ds, _, x, p, hu => by
    obtain ⟨a, vs, rfl, ho, hall⟩ := well_tuple x
    obtain ⟨h2, hs⟩ := argT KX ar hu ho
    exact .tup hs (dw_all KX ar ds _ hall p h2)
  | .float _, _, _, p, _ => Bool.noConfusion (show false = true from p)
  | .dict _, _, _, p, _ => Bool.noConfusion (show false = true from p)
  | .bytearray _, _, _, p, _ => Bool.noConfusion (show false = true from p)
  | .set _, _, _, p, _ => Bool.noConfusion (show false = true from p)
  | .frozenset _, _, _, p, _ => Bool.noConfusion (show false = true from p)
  | .obj _ _, _, _, p, _ => Bool.noConfusion (show false = true from p)
theorem dw_all {Pm : Params} (KX : K.In h) (ar : ∀ a ∈ A, ArgOb h A a) : ∀ (ds : List WData) (vs : List Value), WellAll Pm h vs ds → plWs ds = true → (∀ u ∈ vs, OkU A u) → DwAll K (argH K h A) (vs.map toV) ds
  | [], _, x, _, _ => by
    cases x
    exact .nil
  | d :: ds, _, x, p, hu => by
    obtain ⟨v, vs, rfl, x1, x2⟩ := well_cons x
    have q : plW d = true ∧ plWs ds = true := Bool.and_eq_true_iff.mp p
    exact .cons (dw_one KX ar d v x1 q.1 (hu _ (List.mem_cons_self ..))) (dw_all KX ar ds vs x2 q.2 fun u m => hu u (List.mem_cons_of_mem _ m))
end
end
/-! ### the call -/
theorem spec_call {P : Program} {w : World} {K : PySem.W.Frag} {mg mb : Str → Option Value} {CX : CXT} {k : Nat} {fa : Addr} {fd : FuncData} {ps : List Str} {sp : Sp} {s₁ : Shared} {vals : List Value} {ds : List WData} {R : PySem.W.WRecords} {cl : Str → Option Addr} {d0 : WData}
    (KX : K.In s₁.heap) (hns : s₁.heap.Ns mainGlobals mg) (hb : s₁.heap.Ns builtinsNs mb) (hbb : ∀ x : Str, x ≠ "__name__" → mb x = bootBuiltins x) (hlim : s₁.heap.NoLimit) (hg : s₁.gens = #[])
    (hwl : WellAll w.params s₁.heap vals ds) (hpl : plWs ds = true) (hwt : ∀ d ∈ ds, d.weight ≤ 1048576) (hr : Room k callerA)
    (F : ∀ base : Heap, K.In base → base.Ns mainGlobals mg → FnOk P w K mg base CX k fa fd ps sp) (hbind : ∀ (s : Shared) (us : List Value), us.length = ps.length → BindsTo s fd ⟨us, []⟩ (ps.zip us)) (hlen : ds.length = ps.length)
    (hsp : ∀ (H : Hp) (xs : List V), OnlyF H → DwAll K H xs ds → sp xs H (fun v H' => Dw K H' v d0) fun _ _ _ => False)
    (hCX : ∀ H e s', CX [] H s₁ (fun _ _ _ => False) e s' → False) :
    codeAny (model P w) callerA (.call (.ref fa) ⟨vals, []⟩) (fun r s' => ∃ u as, r = .ok (.ret u) ∧ ReadsW R cl s'.heap u d0 as ∧ OldK s₁.heap s'.heap ∧ s'.os = s₁.os ∧ AllBare s'.gens) s₁ := by
  obtain ⟨A, ho, ar⟩ := area_all ds vals hwl hpl hwt
  have hO : OnlyF (argH K s₁.heap A) := argH_only ar
  have hok : HOk P w (argH K s₁.heap A) s₁.heap := argH_ok ar
  have hS := dw_all KX ar ds vals hwl hpl ho
  have hV := vals_toV ho
  have hK : ∀ b u, argH K s₁.heap A b = some u → K.lookup b = none := fun b u q => (argH_is ar q).1
  have noA : ∀ {b : Addr} {o : Obj} {es : Array DictEntry} {ep : Nat}, s₁.heap.get? b = some o → o.data = .dict es ep → argH K s₁.heap A b = none := fun {b o es ep} e d => by
    cases q : argH K s₁.heap A b with
    | none => rfl
    | some u =>
      obtain ⟨_, vs, _, _, ⟨e2, _⟩ | ⟨e2, _⟩⟩ := argH_is ar q
      · rw [e2] at e
        cases e
        have d' : Data.seq vs.toArray _ = Data.dict es ep := d
        cases d'
      · rw [e2] at e
        cases e
        have d' : Data.seq vs.toArray _ = Data.dict es ep := d
        cases d'
  generalize argH K s₁.heap A = H at hO hok hS hK noA
  have base_of : ∀ {b : Addr} {o : Obj}, s₁.heap.get? b = some o → H b = none → (hidT s₁.heap H).get? b = some o := fun e n => hidT_get e n
  have nsK : ∀ {b : Addr} {m : Str → Option Value}, s₁.heap.Ns b m → (hidT s₁.heap H).Ns b m := fun {b m} ⟨o, es, ep, e, d, r⟩ => ⟨o, es, ep, base_of e (noA e d), d, r⟩
  have nK : ∀ b o, K.lookup b = some o → H b = none := fun b o e => by
    cases q : H b with
    | none => rfl
    | some u =>
      rw [hK b u q] at e
      cases e
  have hKb : K.In (hidT s₁.heap H) := fun b o e => base_of (KX b o e) (nK b o e)
  have hM : Mod K mg (hidT s₁.heap H) := ⟨hKb, nsK hns, ⟨mb, nsK hb, hbb⟩, let ⟨mc, h1, h2⟩ := hlim; ⟨mc, nsK h1, h2⟩⟩
  have e0 : Env0 P w K mg (hidT s₁.heap H) callerA [] s₁ H := ⟨rfl, hM, fun b o e => of_hidT e, Nat.le_of_eq (hidT_size _ _), trivial, fun b hb => absurd (show b ∈ ([] : List Addr) from hb) (by simp), hok, .of_eq hg⟩
  have hl : vals.length = ps.length := by rw [wellAll_len hwl]; exact hlen
  refine codeAny_mono ((F _ hKb (nsK hns)).run callerA [] s₁ H ⟨vals, []⟩ vals (vals.map toV) _ _ hr e0 (hbind s₁ vals hl) hV (hsp H _ hO hS)) fun r s' x => ?_
  cases r with
  | error e => exact (hCX H e s' x).elim
  | ok fl =>
    cases fl with
    | next => exact False.elim x
    | brk => exact False.elim x
    | cont => exact False.elim x
    | ret u =>
      obtain ⟨v, H', os, bare, un, hok', r', q⟩ := x
      have kept : ∀ b o, s₁.heap.get? b = some o → s'.heap.get? b = some o := fun b o e => by
        cases q2 : H b with
        | none => exact un.keep b o e q2 (by intro z; exact absurd (show b ∈ ([] : List Addr) from z) (by simp)) (by simp)
        | some u2 =>
          rcases hO b with z | ⟨ob, u3, z⟩
          · rw [q2] at z
            cases z
          · have z2 := un.frzs b ob _ z
            obtain ⟨e1, _⟩ := hok b _ z
            obtain ⟨e2, _⟩ := hok' b _ z2
            rw [e] at e1
            cases e1
            exact e2
      have KX' : K.In s'.heap := fun b o e => kept b o (KX b o e)
      obtain ⟨as, hrd⟩ := Dw.reads (R := R) (cl := cl) hok' KX' d0 v u q r'
      exact ⟨u, as, rfl, hrd, OldK.of_keep kept, os, bare⟩
/-! ### the row -/
theorem layable_weight {ds : List WData} (h : WData.layableAll ds = true) : ∀ d ∈ ds, d.weight ≤ 1048576 := fun d hd =>
  (PySem.W.layableW_iff.mp (List.all_eq_true.mp h d hd)).2.2
theorem encAll_len : ∀ (cs : List Codec) (a : Codec.denoteAll cs), (Codec.encAll cs a).length = cs.length
  | [], _ => rfl
  | c :: cs, a => by
    show (Codec.encAll cs a.2).length + 1 = cs.length + 1
    rw [encAll_len cs a.2]
/-- the goal that k_headS leaves (case hc), from the promise of the row's def: whatever the arguments that the codecs let and the row asks for, the def gives what stands for enc (f ..) -/
theorem walk_spec {r : OpenSpec} {k : Nat} {q : Program} {loose : List Str} {XP : (Str → Option Value) → Heap → Prop} {YP : World → Heap → Prop} {d : DefRec} {K : Params → PySem.W.Frag} {CX : World → CXT} {ps : List Str} {sp : World → Sp}
    (hwell : r.wellSaid = true) (hdf : d.params.defaults = []) (hlen : r.args.length = ps.length) (hr : Room k callerA)
    (hY : ∀ (w : World) (h : Heap), YP w h → (K w.params).In h)
    (F : ∀ (w : World) (mg : Str → Option Value) (fa : Addr) (h : Heap), YP w h → (K w.params).In h → h.Ns mainGlobals mg → mg d.name = some (.ref fa) →
      ∃ fd : FuncData, (∀ (s : Shared) (us : List Value), us.length = ps.length → BindsTo s fd ⟨us, []⟩ (ps.zip us)) ∧
        ∀ base : Heap, (K w.params).In base → base.Ns mainGlobals mg → FnOk r.prog w (K w.params) mg base (CX w) k fa fd ps (sp w))
    (hsp : ∀ (w : World) (H : Hp) (xs : List V) (a : Codec.denoteAll r.args), OnlyF H → Codec.withinAll r.args a = true → Codec.app r.args r.asked a = true → DwAll (K w.params) H xs (Codec.encAll r.args a) →
      sp w xs H (fun v H' => Dw (K w.params) H' v (r.ret.enc (Codec.app r.args r.f a))) fun _ _ _ => False)
    (hCX : ∀ (w : World) (H : Hp) (s : Shared) (e : Value) (s' : Shared), CX w [] H s (fun _ _ _ => False) e s' → False) :
    PySem.W.WalkOS q loose XP YP r d [] (fun f vs => PySem.call f vs) := by
  intro w s_0 s₁ mg mb G Y fa o pm cd doc dV kV ho hd hcd hD hmg hg args vals as hpre hlay hrd hwl hlo
  obtain ⟨a, e1, e2⟩ := PySem.W.os_pre_some hpre
  obtain ⟨e3, hwi⟩ := Codec.encAll_of_decAll r.args args a e1
  subst e3
  have KX := hY w _ Y
  obtain ⟨fd, hb, hF⟩ := F w mg fa _ Y KX G.T.g hmg
  refine PySem.W.enter_call (codeAny_mono (spec_call (R := []) (cl := classAt s_0.heap) (d0 := r.ret.enc (Codec.app r.args r.f a)) KX G.T.g G.T.b G.T.builtins G.T.nolimit hg hwl (pl_encAll _ _) (layable_weight hlay) hr hF hb (by rw [encAll_len]; exact hlen)
    (fun H xs hO hS => hsp w H xs a hO hwi e2 hS) fun H e s' => hCX w H s₁ e s') fun r' s' hq => ?_)
  obtain ⟨u, as', rfl, h1, h2, h3, h4⟩ := hq
  exact ⟨.inl ⟨u, _, as', rfl, fun _ => rfl, h1, (OpenSpec.post_iff hwell hwi _ _).mpr rfl, fun z => Bool.noConfusion (show false = true from z)⟩, h2, h3, h4⟩
/-- the same where the promise hangs on the written part alone -/
theorem walk_specK {r : OpenSpec} {k : Nat} {q : Program} {loose : List Str} {XP : (Str → Option Value) → Heap → Prop} {YP : World → Heap → Prop} {d : DefRec} {K : Params → PySem.W.Frag} {CX : CXT} {ps : List Str} {sp : PySem.W.Frag → Sp}
    (hwell : r.wellSaid = true) (hdf : d.params.defaults = []) (hlen : r.args.length = ps.length) (hr : Room k callerA)
    (hY : ∀ (w : World) (h : Heap), YP w h → (K w.params).In h)
    (F : ∀ (w : World) (mg : Str → Option Value) (fa : Addr) (h : Heap), YP w h → (K w.params).In h → h.Ns mainGlobals mg → mg d.name = some (.ref fa) →
      ∃ fd : FuncData, (∀ (s : Shared) (us : List Value), us.length = ps.length → BindsTo s fd ⟨us, []⟩ (ps.zip us)) ∧
        ∀ base : Heap, (K w.params).In base → base.Ns mainGlobals mg → FnOk r.prog w (K w.params) mg base CX k fa fd ps (sp (K w.params)))
    (hsp : ∀ (K : PySem.W.Frag) (H : Hp) (xs : List V) (a : Codec.denoteAll r.args), OnlyF H → Codec.withinAll r.args a = true → Codec.app r.args r.asked a = true → DwAll K H xs (Codec.encAll r.args a) →
      sp K xs H (fun v H' => Dw K H' v (r.ret.enc (Codec.app r.args r.f a))) fun _ _ _ => False)
    (hCX : ∀ (H : Hp) (s : Shared) (e : Value) (s' : Shared), CX [] H s (fun _ _ _ => False) e s' → False) :
    PySem.W.WalkOS q loose XP YP r d [] (fun f vs => PySem.call f vs) :=
  walk_spec (K := K) (CX := fun _ => CX) (sp := fun w => sp (K w.params)) hwell hdf hlen hr hY F (fun w H xs a h1 h2 h3 h4 => hsp (K w.params) H xs a h1 h2 h3 h4) fun _ H s e s' => hCX H s e s'
end L2

namespace Bp
/-! ### odd primes below 200 -/
/-- the trial by odd divisors, as the program does it -/
def trial (n : Nat) : Nat → Nat → Bool
  | 0, _ => true
  | f + 1, d => if d * d ≤ n then (if n % d = 0 then false else trial n f (d + 2)) else true
def trialAll : Bool := (List.range 200).all fun n => decide (n < 3) || (n % 2 == 0) || (trial n 8 3 == Kp299.okP n)
theorem trialAll_ok : trialAll = true := by decide +kernel
theorem trial_ok {n : Nat} (h3 : 3 ≤ n) (h : n < 200) (ho : n % 2 ≠ 0) : trial n 8 3 = Kp299.okP n := by
  have e := trialAll_ok
  unfold trialAll at e
  rw [List.all_eq_true] at e
  have q := e n (List.mem_range.mpr h)
  simp only [Bool.or_eq_true, decide_eq_true_eq, beq_iff_eq] at q
  rcases q with (q | q) | q
  · omega
  · omega
  · exact q
theorem okP_small {n : Nat} (h : n < 3) : Kp299.okP n = false := by
  unfold Kp299.okP Kp297.okP
  have e : decide (3 ≤ n) = false := by simp; omega
  rw [e]; simp
theorem okP_big {n : Nat} (h : 200 ≤ n) : Kp299.okP n = false := by
  unfold Kp299.okP
  have e : decide (n < 200) = false := by simp; omega
  rw [e]; simp
theorem okP_even {n : Nat} (h : n % 2 = 0) : Kp299.okP n = false := by
  unfold Kp299.okP Kp297.okP
  rw [h]; simp
theorem okP_lt {n : Nat} (h : Kp299.okP n = true) : n < 200 := by
  unfold Kp299.okP at h
  simp at h; exact h.1
theorem okP_ge {n : Nat} (h : Kp299.okP n = true) : 3 ≤ n := by
  unfold Kp299.okP Kp297.okP at h
  simp at h; exact h.2.1
theorem okP_odd {n : Nat} (h : Kp299.okP n = true) : n % 2 = 1 := by
  unfold Kp299.okP Kp297.okP at h
  simp at h; exact h.2.2.2.1
/-! ### the next prime -/
theorem next_some {p q c : Nat} (h1 : q < c) (h2 : c < 200) (h3 : c ≠ p) (h4 : Kp299.okP c = true) (h5 : ∀ j, q < j → j < c → ¬ (j ≠ p ∧ Kp299.okP j = true)) : Kp299.nextBut p q = some c := by
  unfold Kp299.nextBut
  rw [List.head?_filter, List.find?_range_eq_some]
  refine ⟨by simp [h1, h3, h4], List.mem_range.mpr h2, fun j hj => ?_⟩
  by_cases hq : q < j
  · have := h5 j hq hj
    by_cases hp : j = p
    · simp [hp]
    · simp only [hp, ne_eq, not_false_eq_true, true_and, Bool.not_eq_true] at this
      simp [this]
  · simp [hq]
theorem next_none {p q : Nat} (h5 : ∀ j, q < j → j < 200 → ¬ (j ≠ p ∧ Kp299.okP j = true)) : Kp299.nextBut p q = none := by
  unfold Kp299.nextBut
  rw [List.head?_filter, List.find?_eq_none]
  intro j hj
  rw [List.mem_range] at hj
  by_cases hq : q < j
  · have := h5 j hq hj
    by_cases hp : j = p
    · simp [hp]
    · simp only [hp, ne_eq, not_false_eq_true, true_and, Bool.not_eq_true] at this
      simp [this]
  · simp [hq]
theorem next_ok {p q c : Nat} (h : Kp299.nextBut p q = some c) : Kp299.okP c = true ∧ c ≠ p := by
  unfold Kp299.nextBut at h
  have := List.mem_of_mem_head? h
  simp at this
  exact ⟨this.2.2.2, this.2.2.1⟩
/-! ### lists -/
theorem upTo_succ (n : Nat) : Kp299.upTo (n + 1) = Kp299.upTo n ++ [n + 1] := by
  unfold Kp299.upTo
  rw [List.range_succ, List.map_append]; rfl
theorem upTo_length (n : Nat) : (Kp299.upTo n).length = n := by
  unfold Kp299.upTo; simp
theorem upTo_get {n i : Nat} (h : i < n) : (Kp299.upTo n)[i]? = some (i + 1) := by
  unfold Kp299.upTo
  rw [List.getElem?_map, List.getElem?_range h]; rfl
theorem upTo_take {n i : Nat} (h : i ≤ n) : (Kp299.upTo n).take i = Kp299.upTo i := by
  unfold Kp299.upTo
  rw [← List.map_take, List.take_range, Nat.min_eq_left h]
theorem sumI_snoc : ∀ (l : List Int) (z : Int), (l ++ [z]).sum = l.sum + z
  | [], z => by simp
  | a :: l, z => by
    rw [List.cons_append, List.sum_cons, List.sum_cons, sumI_snoc l z]; omega
theorem foldl_add : ∀ (l : List Nat) (a : Nat), l.foldl (fun (a b : Nat) => a + b) a = a + l.foldl (fun (a b : Nat) => a + b) 0
  | [], a => by simp
  | x :: l, a => by
    simp only [List.foldl_cons]
    rw [foldl_add l (a + x), foldl_add l (0 + x)]; omega
/-- a sum over naturals, in ints -/
theorem sum_int : ∀ (l : List Nat), (l.map fun (x : Nat) => (x : Int)).sum = ((Kp299.sum l : Nat) : Int)
  | [] => rfl
  | x :: l => by
    unfold Kp299.sum
    rw [List.map_cons, List.sum_cons, sum_int l, List.foldl_cons, foldl_add]
    unfold Kp299.sum
    omega
/-- how many are turned, as a sum of ones -/
theorem count_int (f : Nat → Bool) : ∀ (l : List Nat), (l.map fun (x : Nat) => if f x then (1 : Int) else 0).sum = (((l.filter f).length : Nat) : Int)
  | [] => rfl
  | x :: l => by
    rw [List.map_cons, List.sum_cons, count_int f l, List.filter_cons]
    cases f x <;> simp <;> omega
theorem place_mod (p a k : Nat) : Kp299.place p (a % p) k = Kp299.place p a k := by
  unfold Kp299.place; rw [Nat.mul_mod, Nat.mod_mod, ← Nat.mul_mod]
theorem place_lt {p a k : Nat} (h : 0 < p) : Kp299.place p a k < p := Nat.mod_lt _ h
theorem folded_mod (p a k : Nat) : Kp299.folded p (a % p) k = Kp299.folded p a k := by
  unfold Kp299.folded; rw [place_mod]
theorem turned_mod (p a k : Nat) : Kp299.turned p (a % p) k = Kp299.turned p a k := by
  unfold Kp299.turned; rw [place_mod]
theorem folds_mod (p a : Nat) : Kp299.folds p (a % p) = Kp299.folds p a := by
  unfold Kp299.folds
  congr 2; funext k; exact turned_mod p a k
end Bp

namespace Bp
/-! ### the calls in one list -/
def ARG : List Int := [2, 0, 0, 2, 1, 1, 1, 1, 0, 0, 2, 2, 2, 1, 1, 1, 2, 1, 1, 0, 0]
theorem shape_of {c : Int} {n k : Nat} (h : PyKp299.shape c = some (n, k)) : k = 0 ∧ ∃ j : Nat, c = (j : Int) ∧ j ≤ 20 ∧ ARG[j]? = some (n : Int) ∧ n ≤ 2 := by
  unfold PyKp299.shape at h
  by_cases h0 : c = 0
  · subst h0; simp at h; obtain ⟨rfl, rfl⟩ := h; exact ⟨rfl, 0, rfl, by decide, rfl, by decide⟩
  rw [if_neg h0] at h
  by_cases h1 : c = 1
  · subst h1; simp at h; obtain ⟨rfl, rfl⟩ := h; exact ⟨rfl, 1, rfl, by decide, rfl, by decide⟩
  rw [if_neg h1] at h
  by_cases h2 : c = 2
  · subst h2; simp at h; obtain ⟨rfl, rfl⟩ := h; exact ⟨rfl, 2, rfl, by decide, rfl, by decide⟩
  rw [if_neg h2] at h
  by_cases h3 : c = 3
  · subst h3; simp at h; obtain ⟨rfl, rfl⟩ := h; exact ⟨rfl, 3, rfl, by decide, rfl, by decide⟩
  rw [if_neg h3] at h
  by_cases h4 : c = 4
  · subst h4; simp at h; obtain ⟨rfl, rfl⟩ := h; exact ⟨rfl, 4, rfl, by decide, rfl, by decide⟩
  rw [if_neg h4] at h
  by_cases h5 : c = 5
  · subst h5; simp at h; obtain ⟨rfl, rfl⟩ := h; exact ⟨rfl, 5, rfl, by decide, rfl, by decide⟩
  rw [if_neg h5] at h
  by_cases h6 : c = 6
  · subst h6; simp at h; obtain ⟨rfl, rfl⟩ := h; exact ⟨rfl, 6, rfl, by decide, rfl, by decide⟩
  rw [if_neg h6] at h
  by_cases h7 : c = 7
  · subst h7; simp at h; obtain ⟨rfl, rfl⟩ := h; exact ⟨rfl, 7, rfl, by decide, rfl, by decide⟩
  rw [if_neg h7] at h
  by_cases h8 : c = 8
  · subst h8; simp at h; obtain ⟨rfl, rfl⟩ := h; exact ⟨rfl, 8, rfl, by decide, rfl, by decide⟩
  rw [if_neg h8] at h
  by_cases h9 : c = 9
  · subst h9; simp at h; obtain ⟨rfl, rfl⟩ := h; exact ⟨rfl, 9, rfl, by decide, rfl, by decide⟩
  rw [if_neg h9] at h
  by_cases h10 : c = 10
  · subst h10; simp at h; obtain ⟨rfl, rfl⟩ := h; exact ⟨rfl, 10, rfl, by decide, rfl, by decide⟩
  rw [if_neg h10] at h
  by_cases h11 : c = 11
  · subst h11; simp at h; obtain ⟨rfl, rfl⟩ := h; exact ⟨rfl, 11, rfl, by decide, rfl, by decide⟩
  rw [if_neg h11] at h
  by_cases h12 : c = 12
  · subst h12; simp at h; obtain ⟨rfl, rfl⟩ := h; exact ⟨rfl, 12, rfl, by decide, rfl, by decide⟩
  rw [if_neg h12] at h
  by_cases h13 : c = 13
  · subst h13; simp at h; obtain ⟨rfl, rfl⟩ := h; exact ⟨rfl, 13, rfl, by decide, rfl, by decide⟩
  rw [if_neg h13] at h
  by_cases h14 : c = 14
  · subst h14; simp at h; obtain ⟨rfl, rfl⟩ := h; exact ⟨rfl, 14, rfl, by decide, rfl, by decide⟩
  rw [if_neg h14] at h
  by_cases h15 : c = 15
  · subst h15; simp at h; obtain ⟨rfl, rfl⟩ := h; exact ⟨rfl, 15, rfl, by decide, rfl, by decide⟩
  rw [if_neg h15] at h
  by_cases h16 : c = 16
  · subst h16; simp at h; obtain ⟨rfl, rfl⟩ := h; exact ⟨rfl, 16, rfl, by decide, rfl, by decide⟩
  rw [if_neg h16] at h
  by_cases h17 : c = 17
  · subst h17; simp at h; obtain ⟨rfl, rfl⟩ := h; exact ⟨rfl, 17, rfl, by decide, rfl, by decide⟩
  rw [if_neg h17] at h
  by_cases h18 : c = 18
  · subst h18; simp at h; obtain ⟨rfl, rfl⟩ := h; exact ⟨rfl, 18, rfl, by decide, rfl, by decide⟩
  rw [if_neg h18] at h
  by_cases h19 : c = 19
  · subst h19; simp at h; obtain ⟨rfl, rfl⟩ := h; exact ⟨rfl, 19, rfl, by decide, rfl, by decide⟩
  rw [if_neg h19] at h
  by_cases h20 : c = 20
  · subst h20; simp at h; obtain ⟨rfl, rfl⟩ := h; exact ⟨rfl, 20, rfl, by decide, rfl, by decide⟩
  rw [if_neg h20] at h
  cases h
/-- a call as it may be handed in -/
structure Legal (c : Int) (gs : List Int) : Prop where
  shape : PyKp299.shape c = some (gs.length, 0)
  nat : ∀ x ∈ gs, 0 ≤ x ∧ x ≤ 4294967295
/-- one call is whole as it stands -/
theorem whole_id (c : List (List Int)) : PyKp299.whole c = c := by
  unfold PyKp299.whole
  split <;> rfl
/-- the first call of a list, and the rest -/
theorem calls_cons {f : Nat} {c : Int} {r : List Int} {cs : List (List (List Int))} (h : PyFlat.calls PyKp299.shape f (c :: r) = some cs) :
    ∃ (n f' : Nat) (cs' : List (List (List Int))), PyKp299.shape c = some (n, 0) ∧ n ≤ r.length ∧ cs = [c :: r.take n] :: cs' ∧ PyFlat.calls PyKp299.shape f' (r.drop n) = some cs' := by
  cases f with
  | zero => simp [PyFlat.calls] at h
  | succ f =>
    rw [PyFlat.calls] at h
    simp only [PyFlat.call] at h
    cases e : PyKp299.shape c with
    | none => rw [e] at h; simp at h
    | some nk =>
      obtain ⟨n, k⟩ := nk
      obtain ⟨rfl, _⟩ := shape_of e
      rw [e] at h
      simp only [PyFlat.rows] at h
      by_cases hl : r.length < n
      · simp [hl] at h
      · rw [if_neg hl] at h
        simp only at h
        cases e2 : PyFlat.calls PyKp299.shape f (r.drop n) with
        | none => rw [e2] at h; simp at h
        | some cs' =>
          rw [e2] at h
          simp only [Option.some.injEq] at h
          exact ⟨n, f, cs', rfl, by omega, h.symm, e2⟩
/-- what the loop has done so far, and what is left: THE LOOP'S WORD -/
def Left (ns : List Int) (i : Nat) (st : Kp299.State) (out : List Int) : Prop :=
  ∃ (f : Nat) (cs : List (List (List Int))), PyFlat.calls PyKp299.shape f (ns.drop i) = some cs ∧ PyKp299.answers ns = out ++ PyFlat.told (PyFlat.played Kp299Neutral.step st cs)
theorem map_whole : ∀ (cs : List (List (List Int))), cs.map PyKp299.whole = cs
  | [] => rfl
  | c :: r => by rw [List.map_cons, whole_id, map_whole r]
theorem left_start {ns : List Int} (h : PyKp299.answers_asked ns = true) : Left ns 0 none [] := by
  unfold PyKp299.answers_asked at h
  cases e : PyFlat.calls PyKp299.shape ns.length ns with
  | none => rw [e] at h; cases h
  | some cs =>
    refine ⟨ns.length, cs, by rw [List.drop_zero]; exact e, ?_⟩
    unfold PyKp299.answers PyKp299.calls
    rw [e, List.nil_append]
    simp only [map_whole]
    rfl
theorem left_end {ns : List Int} {st : Kp299.State} {out : List Int} {i : Nat} (hi : ns.length ≤ i) (h : Left ns i st out) : out = PyKp299.answers ns := by
  obtain ⟨f, cs, h1, h2⟩ := h
  rw [List.drop_eq_nil_of_le hi] at h1
  have e : cs = [] := by
    cases f <;> simp [PyFlat.calls] at h1 <;> exact h1
  subst e
  rw [h2]
  simp [PyFlat.played, PyFlat.told]
/-- one turn -/
theorem left_turn {ns : List Int} {st : Kp299.State} {out : List Int} {i : Nat} (hn : ∀ x ∈ ns, 0 ≤ x ∧ x ≤ 4294967295) (hi : i < ns.length) (h : Left ns i st out) :
    ∃ (c : Int) (n : Nat), ns[i]? = some c ∧ i + 1 + n ≤ ns.length ∧ ((ns.drop (i + 1)).take n).length = n ∧ Legal c ((ns.drop (i + 1)).take n) ∧
      Left ns (i + 1 + n) (Kp299Neutral.step st [c :: (ns.drop (i + 1)).take n]).1
        (out ++ (((Kp299Neutral.step st [c :: (ns.drop (i + 1)).take n]).2.length : Int) :: (Kp299Neutral.step st [c :: (ns.drop (i + 1)).take n]).2)) := by
  obtain ⟨f, cs, h1, h2⟩ := h
  have e : ns.drop i = ns[i] :: ns.drop (i + 1) := List.drop_eq_getElem_cons hi
  rw [e] at h1
  obtain ⟨n, f', cs', s1, s2, rfl, s4⟩ := calls_cons h1
  rw [List.length_drop] at s2
  have hl : ((ns.drop (i + 1)).take n).length = n := by rw [List.length_take, List.length_drop]; omega
  refine ⟨ns[i], n, List.getElem?_eq_getElem hi, by omega, hl, ⟨by rw [hl]; exact s1, fun x hx => hn x (List.mem_of_mem_drop (List.mem_of_mem_take hx))⟩, f', cs', by rw [← List.drop_drop]; exact s4, ?_⟩
  rw [h2]
  simp only [PyFlat.played, PyFlat.told, List.flatMap_cons, List.append_assoc, List.cons_append]
end Bp

namespace Bp
/-! ### the calls, one by one -/
inductive LC : Int → List Int → Prop where
  | c0 (x : Nat) (y : Nat) (hx : x < 4294967296) (hy : y < 4294967296) : LC 0 [(x : Int), (y : Int)]
  | c1 : LC 1 []
  | c2 : LC 2 []
  | c3 (x : Nat) (y : Nat) (hx : x < 4294967296) (hy : y < 4294967296) : LC 3 [(x : Int), (y : Int)]
  | c4 (x : Nat) (hx : x < 4294967296) : LC 4 [(x : Int)]
  | c5 (x : Nat) (hx : x < 4294967296) : LC 5 [(x : Int)]
  | c6 (x : Nat) (hx : x < 4294967296) : LC 6 [(x : Int)]
  | c7 (x : Nat) (hx : x < 4294967296) : LC 7 [(x : Int)]
  | c8 : LC 8 []
  | c9 : LC 9 []
  | c10 (x : Nat) (y : Nat) (hx : x < 4294967296) (hy : y < 4294967296) : LC 10 [(x : Int), (y : Int)]
  | c11 (x : Nat) (y : Nat) (hx : x < 4294967296) (hy : y < 4294967296) : LC 11 [(x : Int), (y : Int)]
  | c12 (x : Nat) (y : Nat) (hx : x < 4294967296) (hy : y < 4294967296) : LC 12 [(x : Int), (y : Int)]
  | c13 (x : Nat) (hx : x < 4294967296) : LC 13 [(x : Int)]
  | c14 (x : Nat) (hx : x < 4294967296) : LC 14 [(x : Int)]
  | c15 (x : Nat) (hx : x < 4294967296) : LC 15 [(x : Int)]
  | c16 (x : Nat) (y : Nat) (hx : x < 4294967296) (hy : y < 4294967296) : LC 16 [(x : Int), (y : Int)]
  | c17 (x : Nat) (hx : x < 4294967296) : LC 17 [(x : Int)]
  | c18 (x : Nat) (hx : x < 4294967296) : LC 18 [(x : Int)]
  | c19 : LC 19 []
  | c20 : LC 20 []
theorem len2 {α : Type} {l : List α} (h : l.length = 2) : ∃ x y, l = [x, y] := by
  match l, h with
  | [x, y], _ => exact ⟨x, y, rfl⟩
theorem nat_of {x : Int} (h : 0 ≤ x ∧ x ≤ 4294967295) : ∃ n : Nat, x = (n : Int) ∧ n < 4294967296 := ⟨x.toNat, by omega, by omega⟩
theorem Legal.lc {c : Int} {gs : List Int} (h : Legal c gs) : LC c gs := by
  obtain ⟨_, j, rfl, hj, ha, _⟩ := shape_of h.shape
  have key : ∀ n : Nat, ARG[j]? = some (n : Int) → gs.length = n := fun n e => by
    rw [e] at ha
    have := Option.some.inj ha
    omega
  match j, hj, key, h with
  | 0, _, key, h =>
    have e := key 2 rfl
    obtain ⟨x, y, rfl⟩ := len2 e
    obtain ⟨x, rfl, hx⟩ := nat_of (h.nat x (by simp))
    obtain ⟨y, rfl, hy⟩ := nat_of (h.nat y (by simp))
    exact .c0 x y hx hy
  | 1, _, key, h =>
    have e := key 0 rfl
    obtain rfl := List.length_eq_zero_iff.mp e
    exact .c1
  | 2, _, key, h =>
    have e := key 0 rfl
    obtain rfl := List.length_eq_zero_iff.mp e
    exact .c2
  | 3, _, key, h =>
    have e := key 2 rfl
    obtain ⟨x, y, rfl⟩ := len2 e
    obtain ⟨x, rfl, hx⟩ := nat_of (h.nat x (by simp))
    obtain ⟨y, rfl, hy⟩ := nat_of (h.nat y (by simp))
    exact .c3 x y hx hy
  | 4, _, key, h =>
    have e := key 1 rfl
    obtain ⟨x, rfl⟩ := List.length_eq_one_iff.mp e
    obtain ⟨x, rfl, hx⟩ := nat_of (h.nat x (by simp))
    exact .c4 x hx
  | 5, _, key, h =>
    have e := key 1 rfl
    obtain ⟨x, rfl⟩ := List.length_eq_one_iff.mp e
    obtain ⟨x, rfl, hx⟩ := nat_of (h.nat x (by simp))
    exact .c5 x hx
  | 6, _, key, h =>
    have e := key 1 rfl
    obtain ⟨x, rfl⟩ := List.length_eq_one_iff.mp e
    obtain ⟨x, rfl, hx⟩ := nat_of (h.nat x (by simp))
    exact .c6 x hx
  | 7, _, key, h =>
    have e := key 1 rfl
    obtain ⟨x, rfl⟩ := List.length_eq_one_iff.mp e
    obtain ⟨x, rfl, hx⟩ := nat_of (h.nat x (by simp))
    exact .c7 x hx
  | 8, _, key, h =>
    have e := key 0 rfl
    obtain rfl := List.length_eq_zero_iff.mp e
    exact .c8
  | 9, _, key, h =>
    have e := key 0 rfl
    obtain rfl := List.length_eq_zero_iff.mp e
    exact .c9
  | 10, _, key, h =>
    have e := key 2 rfl
    obtain ⟨x, y, rfl⟩ := len2 e
    obtain ⟨x, rfl, hx⟩ := nat_of (h.nat x (by simp))
    obtain ⟨y, rfl, hy⟩ := nat_of (h.nat y (by simp))
    exact .c10 x y hx hy
  | 11, _, key, h =>
    have e := key 2 rfl
    obtain ⟨x, y, rfl⟩ := len2 e
    obtain ⟨x, rfl, hx⟩ := nat_of (h.nat x (by simp))
    obtain ⟨y, rfl, hy⟩ := nat_of (h.nat y (by simp))
    exact .c11 x y hx hy
  | 12, _, key, h =>
    have e := key 2 rfl
    obtain ⟨x, y, rfl⟩ := len2 e
    obtain ⟨x, rfl, hx⟩ := nat_of (h.nat x (by simp))
    obtain ⟨y, rfl, hy⟩ := nat_of (h.nat y (by simp))
    exact .c12 x y hx hy
  | 13, _, key, h =>
    have e := key 1 rfl
    obtain ⟨x, rfl⟩ := List.length_eq_one_iff.mp e
    obtain ⟨x, rfl, hx⟩ := nat_of (h.nat x (by simp))
    exact .c13 x hx
  | 14, _, key, h =>
    have e := key 1 rfl
    obtain ⟨x, rfl⟩ := List.length_eq_one_iff.mp e
    obtain ⟨x, rfl, hx⟩ := nat_of (h.nat x (by simp))
    exact .c14 x hx
  | 15, _, key, h =>
    have e := key 1 rfl
    obtain ⟨x, rfl⟩ := List.length_eq_one_iff.mp e
    obtain ⟨x, rfl, hx⟩ := nat_of (h.nat x (by simp))
    exact .c15 x hx
  | 16, _, key, h =>
    have e := key 2 rfl
    obtain ⟨x, y, rfl⟩ := len2 e
    obtain ⟨x, rfl, hx⟩ := nat_of (h.nat x (by simp))
    obtain ⟨y, rfl, hy⟩ := nat_of (h.nat y (by simp))
    exact .c16 x y hx hy
  | 17, _, key, h =>
    have e := key 1 rfl
    obtain ⟨x, rfl⟩ := List.length_eq_one_iff.mp e
    obtain ⟨x, rfl, hx⟩ := nat_of (h.nat x (by simp))
    exact .c17 x hx
  | 18, _, key, h =>
    have e := key 1 rfl
    obtain ⟨x, rfl⟩ := List.length_eq_one_iff.mp e
    obtain ⟨x, rfl, hx⟩ := nat_of (h.nat x (by simp))
    exact .c18 x hx
  | 19, _, key, h =>
    have e := key 0 rfl
    obtain rfl := List.length_eq_zero_iff.mp e
    exact .c19
  | 20, _, key, h =>
    have e := key 0 rfl
    obtain rfl := List.length_eq_zero_iff.mp e
    exact .c20
  | j + 21, hj, _, _ => omega
/-! ### states that the program comes to -/
def Wf (st : Kp299.State) : Prop := ∀ t, st = some t → Kp299.okP t.p = true ∧ Kp299.okP t.q = true ∧ t.p ≠ t.q
theorem wf_none : Wf none := fun _ h => nomatch h
theorem wf_some {p q : Nat} (h1 : Kp299.okP p = true) (h2 : Kp299.okP q = true) (h3 : p ≠ q) : Wf (some ⟨p, q⟩) := fun t e => by cases e; exact ⟨h1, h2, h3⟩
/-! ### what is due, call by call -/
theorem st_none {c : Int} {gs : List Int} (h : LC c gs) (hc : c ≠ 0) : Kp299Neutral.step none [c :: gs] = (none, [-11]) := by
  cases h
  · exact absurd rfl hc
  all_goals rfl
theorem st_begin_no {st : Kp299.State} {x y : Nat} (h : Kp299.okP x = false ∨ Kp299.okP y = false ∨ x = y) : Kp299Neutral.step st [[0, (x : Int), (y : Int)]] = (st, [-22]) := by
  show ((Kp299.step st (.begin_ x y)).1, (Kp299.step st (.begin_ x y)).2.num :: (Kp299.step st (.begin_ x y)).2.nums) = _
  have e : Kp299.step st (.begin_ x y) = (st, Kp299.say (-22)) := by unfold Kp299.step; exact if_pos h
  rw [e]; rfl
theorem st_begin_yes {st : Kp299.State} {x y : Nat} (h1 : Kp299.okP x = true) (h2 : Kp299.okP y = true) (h3 : x ≠ y) : Kp299Neutral.step st [[0, (x : Int), (y : Int)]] = (some ⟨x, y⟩, [0]) := by
  show ((Kp299.step st (.begin_ x y)).1, (Kp299.step st (.begin_ x y)).2.num :: (Kp299.step st (.begin_ x y)).2.nums) = _
  have e : Kp299.step st (.begin_ x y) = (some ⟨x, y⟩, Kp299.say 0) := by unfold Kp299.step; exact if_neg (by rw [h1, h2]; simp [h3])
  rw [e]; rfl
theorem st_exchange (p q : Nat) : Kp299Neutral.step (some ⟨p, q⟩) [[1]] = (some ⟨q, p⟩, [(q : Int), (p : Int)]) := rfl
theorem st_next_some {p q n : Nat} (h : Kp299.nextBut p q = some n) : Kp299Neutral.step (some ⟨p, q⟩) [[2]] = (some ⟨p, n⟩, [(n : Int)]) := by
  show ((Kp299.step (some ⟨p, q⟩) .next).1, (Kp299.step (some ⟨p, q⟩) .next).2.num :: (Kp299.step (some ⟨p, q⟩) .next).2.nums) = _
  have e : Kp299.step (some ⟨p, q⟩) .next = (some ⟨p, n⟩, Kp299.say (n : Nat)) := by unfold Kp299.step; simp only [h]
  rw [e]; rfl
theorem st_next_none {p q : Nat} (h : Kp299.nextBut p q = none) : Kp299Neutral.step (some ⟨p, q⟩) [[2]] = (some ⟨p, q⟩, [-33]) := by
  show ((Kp299.step (some ⟨p, q⟩) .next).1, (Kp299.step (some ⟨p, q⟩) .next).2.num :: (Kp299.step (some ⟨p, q⟩) .next).2.nums) = _
  have e : Kp299.step (some ⟨p, q⟩) .next = (some ⟨p, q⟩, Kp299.say (-33)) := by unfold Kp299.step; simp only [h]
  rw [e]; rfl
/-- an answer as a list -/
def lst (a : Kp299.Ans) : List Int := a.num :: a.nums
theorem lst_ite {c : Prop} [Decidable c] (a b : Kp299.Ans) : lst (if c then a else b) = if c then lst a else lst b := by split <;> rfl
theorem is_eq (p q a : Nat) : (Kp299.is ⟨p, q⟩ a = false) = (a % p = 0) := by unfold Kp299.is; simp

theorem st_3 (p q x y : Nat) : Kp299Neutral.step (some ⟨p, q⟩) [[3, (x : Int), (y : Int)]] = (some ⟨p, q⟩, if x % p = 0 ∨ y = 0 ∨ p / 2 < y then [-22] else [(Kp299.folded p x y : Int), if Kp299.turned p x y then 1 else 0]) := by
  show (some (⟨p, q⟩ : Kp299.Two), lst (Kp299.step (some ⟨p, q⟩) (.fold x y)).2) = _
  refine congrArg (fun l => ((some ⟨p, q⟩ : Kp299.State), l)) ?_
  by_cases hc : x % p = 0 ∨ y = 0 ∨ p / 2 < y
  · rw [if_pos hc]
    exact congrArg lst (if_pos (by rw [is_eq]; exact hc))
  · rw [if_neg hc]
    refine (congrArg lst (if_neg (by rw [is_eq]; exact hc))).trans ?_
    rfl
theorem st_4 (p q x : Nat) : Kp299Neutral.step (some ⟨p, q⟩) [[4, (x : Int)]] = (some ⟨p, q⟩, if x % p = 0 then [-22] else [(Kp299.folds p x : Int)]) := by
  show (some (⟨p, q⟩ : Kp299.Two), lst (Kp299.step (some ⟨p, q⟩) (.folds x)).2) = _
  refine congrArg (fun l => ((some ⟨p, q⟩ : Kp299.State), l)) ?_
  by_cases hc : x % p = 0
  · rw [if_pos hc]
    exact congrArg lst (if_pos (by rw [is_eq]; exact hc))
  · rw [if_neg hc]
    refine (congrArg lst (if_neg (by rw [is_eq]; exact hc))).trans ?_
    rfl
theorem st_5 (p q x : Nat) : Kp299Neutral.step (some ⟨p, q⟩) [[5, (x : Int)]] = (some ⟨p, q⟩, if x % p = 0 then [-22] else ((p / 2 : Nat) : Int) :: ((Kp299.upTo (p / 2)).map (Kp299.folded p x)).map fun (z : Nat) => (z : Int)) := by
  show (some (⟨p, q⟩ : Kp299.Two), lst (Kp299.step (some ⟨p, q⟩) (.foldedAll x)).2) = _
  refine congrArg (fun l => ((some ⟨p, q⟩ : Kp299.State), l)) ?_
  by_cases hc : x % p = 0
  · rw [if_pos hc]
    exact congrArg lst (if_pos (by rw [is_eq]; exact hc))
  · rw [if_neg hc]
    refine (congrArg lst (if_neg (by rw [is_eq]; exact hc))).trans ?_
    simp only [lst, Kp299.tellAll, Kp299.half, List.length_map, upTo_length]
theorem st_6 (p q x : Nat) : Kp299Neutral.step (some ⟨p, q⟩) [[6, (x : Int)]] = (some ⟨p, q⟩, if x = 0 ∨ p / 2 < x then [-22] else [(Kp299.column p q x : Int)]) := by
  show (some (⟨p, q⟩ : Kp299.Two), lst (Kp299.step (some ⟨p, q⟩) (.column x)).2) = _
  refine congrArg (fun l => ((some ⟨p, q⟩ : Kp299.State), l)) ?_
  by_cases hc : x = 0 ∨ p / 2 < x
  · rw [if_pos hc]
    exact congrArg lst (if_pos (hc))
  · rw [if_neg hc]
    refine (congrArg lst (if_neg (hc))).trans ?_
    rfl
theorem st_7 (p q x : Nat) : Kp299Neutral.step (some ⟨p, q⟩) [[7, (x : Int)]] = (some ⟨p, q⟩, if x = 0 ∨ q / 2 < x then [-22] else [(Kp299.column q p x : Int)]) := by
  show (some (⟨p, q⟩ : Kp299.Two), lst (Kp299.step (some ⟨p, q⟩) (.row x)).2) = _
  refine congrArg (fun l => ((some ⟨p, q⟩ : Kp299.State), l)) ?_
  by_cases hc : x = 0 ∨ q / 2 < x
  · rw [if_pos hc]
    exact congrArg lst (if_pos (hc))
  · rw [if_neg hc]
    refine (congrArg lst (if_neg (hc))).trans ?_
    rfl
theorem st_8 (p q  : Nat) : Kp299Neutral.step (some ⟨p, q⟩) [[8]] = (some ⟨p, q⟩, [(Kp299.under p q : Int)]) := by
  rfl
theorem st_9 (p q  : Nat) : Kp299Neutral.step (some ⟨p, q⟩) [[9]] = (some ⟨p, q⟩, [(Kp299.under q p : Int)]) := by
  rfl
theorem st_10 (p q x y : Nat) : Kp299Neutral.step (some ⟨p, q⟩) [[10, (x : Int), (y : Int)]] = (some ⟨p, q⟩, if x = 0 ∨ p / 2 < x ∨ y = 0 ∨ q / 2 < y then [-22] else [if y * p < x * q then 1 else 2]) := by
  show (some (⟨p, q⟩ : Kp299.Two), lst (Kp299.step (some ⟨p, q⟩) (.inside x y)).2) = _
  refine congrArg (fun l => ((some ⟨p, q⟩ : Kp299.State), l)) ?_
  by_cases hc : x = 0 ∨ p / 2 < x ∨ y = 0 ∨ q / 2 < y
  · rw [if_pos hc]
    exact congrArg lst (if_pos (hc))
  · rw [if_neg hc]
    refine (congrArg lst (if_neg (hc))).trans ?_
    rfl
theorem st_11 (p q x y : Nat) : Kp299Neutral.step (some ⟨p, q⟩) [[11, (x : Int), (y : Int)]] = (some ⟨p, q⟩, if x % p = 0 ∨ y = 0 ∨ p ≤ y then [-22] else [(Kp299.place p x y : Int)]) := by
  show (some (⟨p, q⟩ : Kp299.Two), lst (Kp299.step (some ⟨p, q⟩) (.place x y)).2) = _
  refine congrArg (fun l => ((some ⟨p, q⟩ : Kp299.State), l)) ?_
  by_cases hc : x % p = 0 ∨ y = 0 ∨ p ≤ y
  · rw [if_pos hc]
    exact congrArg lst (if_pos (by rw [is_eq]; exact hc))
  · rw [if_neg hc]
    refine (congrArg lst (if_neg (by rw [is_eq]; exact hc))).trans ?_
    rfl
theorem st_12 (p q x y : Nat) : Kp299Neutral.step (some ⟨p, q⟩) [[12, (x : Int), (y : Int)]] = (some ⟨p, q⟩, if x % p = 0 ∨ y % p = 0 then [-22] else [((((Kp299.upTo (p - 1)).find? fun k => Kp299.place p x k == y % p).getD 0 : Nat) : Int)]) := by
  show (some (⟨p, q⟩ : Kp299.Two), lst (Kp299.step (some ⟨p, q⟩) (.where_ x y)).2) = _
  refine congrArg (fun l => ((some ⟨p, q⟩ : Kp299.State), l)) ?_
  by_cases hc : x % p = 0 ∨ y % p = 0
  · rw [if_pos hc]
    exact congrArg lst (if_pos (by rw [is_eq, is_eq]; exact hc))
  · rw [if_neg hc]
    refine (congrArg lst (if_neg (by rw [is_eq, is_eq]; exact hc))).trans ?_
    rfl
theorem st_13 (p q x : Nat) : Kp299Neutral.step (some ⟨p, q⟩) [[13, (x : Int)]] = (some ⟨p, q⟩, if x % p = 0 then [-22] else [(Kp299.pairs p x : Int)]) := by
  show (some (⟨p, q⟩ : Kp299.Two), lst (Kp299.step (some ⟨p, q⟩) (.pairs x)).2) = _
  refine congrArg (fun l => ((some ⟨p, q⟩ : Kp299.State), l)) ?_
  by_cases hc : x % p = 0
  · rw [if_pos hc]
    exact congrArg lst (if_pos (by rw [is_eq]; exact hc))
  · rw [if_neg hc]
    refine (congrArg lst (if_neg (by rw [is_eq]; exact hc))).trans ?_
    rfl
theorem st_14 (p q x : Nat) : Kp299Neutral.step (some ⟨p, q⟩) [[14, (x : Int)]] = (some ⟨p, q⟩, if x % p = 0 then [-22] else [(Kp299.long p x : Int), (Kp299.rounds p x : Int)]) := by
  show (some (⟨p, q⟩ : Kp299.Two), lst (Kp299.step (some ⟨p, q⟩) (.long x)).2) = _
  refine congrArg (fun l => ((some ⟨p, q⟩ : Kp299.State), l)) ?_
  by_cases hc : x % p = 0
  · rw [if_pos hc]
    exact congrArg lst (if_pos (by rw [is_eq]; exact hc))
  · rw [if_neg hc]
    refine (congrArg lst (if_neg (by rw [is_eq]; exact hc))).trans ?_
    rfl
theorem st_15 (p q x : Nat) : Kp299Neutral.step (some ⟨p, q⟩) [[15, (x : Int)]] = (some ⟨p, q⟩, if x % p = 0 then [-22] else [((p - 1 - Kp299.rounds p x : Nat) : Int)]) := by
  show (some (⟨p, q⟩ : Kp299.Two), lst (Kp299.step (some ⟨p, q⟩) (.fewest x)).2) = _
  refine congrArg (fun l => ((some ⟨p, q⟩ : Kp299.State), l)) ?_
  by_cases hc : x % p = 0
  · rw [if_pos hc]
    exact congrArg lst (if_pos (by rw [is_eq]; exact hc))
  · rw [if_neg hc]
    refine (congrArg lst (if_neg (by rw [is_eq]; exact hc))).trans ?_
    rfl
theorem st_16 (p q x y : Nat) : Kp299Neutral.step (some ⟨p, q⟩) [[16, (x : Int), (y : Int)]] = (some ⟨p, q⟩, if x % p = 0 ∨ y % p = 0 then [-22] else ((Kp299.roundOf p x y).length : Int) :: (Kp299.roundOf p x y).map fun (z : Nat) => (z : Int)) := by
  show (some (⟨p, q⟩ : Kp299.Two), lst (Kp299.step (some ⟨p, q⟩) (.round x y)).2) = _
  refine congrArg (fun l => ((some ⟨p, q⟩ : Kp299.State), l)) ?_
  by_cases hc : x % p = 0 ∨ y % p = 0
  · rw [if_pos hc]
    exact congrArg lst (if_pos (by rw [is_eq, is_eq]; exact hc))
  · rw [if_neg hc]
    refine (congrArg lst (if_neg (by rw [is_eq, is_eq]; exact hc))).trans ?_
    rfl
theorem st_17 (p q x : Nat) : Kp299Neutral.step (some ⟨p, q⟩) [[17, (x : Int)]] = (some ⟨p, q⟩, if p * q ≤ x then [-22] else [(Kp299.dealt p q x : Int)]) := by
  show (some (⟨p, q⟩ : Kp299.Two), lst (Kp299.step (some ⟨p, q⟩) (.dealt x)).2) = _
  refine congrArg (fun l => ((some ⟨p, q⟩ : Kp299.State), l)) ?_
  by_cases hc : p * q ≤ x
  · rw [if_pos hc]
    exact congrArg lst (if_pos (hc))
  · rw [if_neg hc]
    refine (congrArg lst (if_neg (hc))).trans ?_
    rfl
theorem st_18 (p q x : Nat) : Kp299Neutral.step (some ⟨p, q⟩) [[18, (x : Int)]] = (some ⟨p, q⟩, if p * q ≤ x then [-22] else [(Kp299.dealt q p x : Int)]) := by
  show (some (⟨p, q⟩ : Kp299.Two), lst (Kp299.step (some ⟨p, q⟩) (.dealtTo x)).2) = _
  refine congrArg (fun l => ((some ⟨p, q⟩ : Kp299.State), l)) ?_
  by_cases hc : p * q ≤ x
  · rw [if_pos hc]
    exact congrArg lst (if_pos (hc))
  · rw [if_neg hc]
    refine (congrArg lst (if_neg (hc))).trans ?_
    rfl
theorem st_19 (p q  : Nat) : Kp299Neutral.step (some ⟨p, q⟩) [[19]] = (some ⟨p, q⟩, [(Kp299.dealtPairs p q : Int)]) := by
  rfl
theorem st_20 (p q  : Nat) : Kp299Neutral.step (some ⟨p, q⟩) [[20]] = (some ⟨p, q⟩, [(p : Int), (q : Int)]) := by
  rfl
theorem long_le (p a : Nat) : Kp299.long p a ≤ p - 1 := by
  unfold Kp299.long
  cases e : (Kp299.upTo (p - 1)).find? fun k => Kp298.pow p a k == 1 with
  | none => exact Nat.zero_le _
  | some k =>
    have := List.mem_of_find?_eq_some e
    unfold Kp299.upTo at this
    simp at this
    obtain ⟨j, h1, h2⟩ := this
    show k ≤ p - 1
    omega
theorem roundFrom_len (p a : Nat) : ∀ f k, (Kp299.roundFrom p a f k).length = f
  | 0, _ => rfl
  | f + 1, k => by unfold Kp299.roundFrom; rw [List.length_cons, roundFrom_len p a f]
/-- an answer is short; a state that is come to is well formed -/
theorem step_len {st : Kp299.State} {c : Int} {gs : List Int} (h : LC c gs) (w : Wf st) : (Kp299Neutral.step st [c :: gs]).2.length ≤ 201 := by
  by_cases hc : c = 0
  · subst hc
    cases h with
    | c0 x y hx hy =>
      by_cases z : Kp299.okP x = false ∨ Kp299.okP y = false ∨ x = y
      · rw [st_begin_no z]; simp
      · simp only [not_or, Bool.not_eq_false] at z
        rw [st_begin_yes z.1 z.2.1 z.2.2]; simp
  cases st with
  | none => rw [st_none h hc]; simp
  | some t =>
    obtain ⟨p, q⟩ := t
    obtain ⟨w1, w2, w3⟩ := w _ rfl
    have hp := okP_lt w1
    have hlp : p < 200 := hp
    cases h with
    | c0 => exact absurd rfl hc
    | c1 => rw [st_exchange]; simp
    | c2 =>
      cases e : Kp299.nextBut p q with
      | none => rw [st_next_none e]; simp
      | some n => rw [st_next_some e]; simp
    | c5 x =>
      rw [st_5]
      split
      · simp
      · simp [upTo_length]; omega
    | c16 x y =>
      rw [st_16]
      split
      · simp
      · have := long_le p x
        unfold Kp299.roundOf
        simp [roundFrom_len]; omega
    | c3 x y => rw [st_3]; split <;> simp
    | c4 x => rw [st_4]; split <;> simp
    | c6 x => rw [st_6]; split <;> simp
    | c7 x => rw [st_7]; split <;> simp
    | c8 => rw [st_8]; simp
    | c9 => rw [st_9]; simp
    | c10 x y => rw [st_10]; split <;> simp
    | c11 x y => rw [st_11]; split <;> simp
    | c12 x y => rw [st_12]; split <;> simp
    | c13 x => rw [st_13]; split <;> simp
    | c14 x => rw [st_14]; split <;> simp
    | c15 x => rw [st_15]; split <;> simp
    | c17 x => rw [st_17]; split <;> simp
    | c18 x => rw [st_18]; split <;> simp
    | c19 => rw [st_19]; simp
    | c20 => rw [st_20]; simp
theorem step_wf {st : Kp299.State} {c : Int} {gs : List Int} (h : LC c gs) (w : Wf st) : Wf (Kp299Neutral.step st [c :: gs]).1 := by
  by_cases hc : c = 0
  · subst hc
    cases h with
    | c0 x y hx hy =>
      by_cases z : Kp299.okP x = false ∨ Kp299.okP y = false ∨ x = y
      · rw [st_begin_no z]; exact w
      · simp only [not_or, Bool.not_eq_false] at z
        rw [st_begin_yes z.1 z.2.1 z.2.2]; exact wf_some z.1 z.2.1 z.2.2
  cases st with
  | none => rw [st_none h hc]; exact wf_none
  | some t =>
    obtain ⟨p, q⟩ := t
    obtain ⟨w1, w2, w3⟩ := w _ rfl
    cases h with
    | c0 => exact absurd rfl hc
    | c1 => rw [st_exchange]; exact wf_some w2 w1 (Ne.symm w3)
    | c2 =>
      cases e : Kp299.nextBut p q with
      | none => rw [st_next_none e]; exact w
      | some n =>
        rw [st_next_some e]
        obtain ⟨z1, z2⟩ := next_ok e
        exact wf_some w1 z1 (Ne.symm z2)
    | c3 x y => rw [st_3]; exact w
    | c4 x => rw [st_4]; exact w
    | c5 x => rw [st_5]; exact w
    | c6 x => rw [st_6]; exact w
    | c7 x => rw [st_7]; exact w
    | c8 => rw [st_8]; exact w
    | c9 => rw [st_9]; exact w
    | c10 x y => rw [st_10]; exact w
    | c11 x y => rw [st_11]; exact w
    | c12 x y => rw [st_12]; exact w
    | c13 x => rw [st_13]; exact w
    | c14 x => rw [st_14]; exact w
    | c15 x => rw [st_15]; exact w
    | c16 x y => rw [st_16]; exact w
    | c17 x => rw [st_17]; exact w
    | c18 x => rw [st_18]; exact w
    | c19 => rw [st_19]; exact w
    | c20 => rw [st_20]; exact w
end Bp

namespace Bp
/-! ### powers by p -/
theorem powUp_eq (p : Nat) : ∀ (f a e : Nat), e < 2 ^ f → Kp298.powUp p f a e = a ^ e % p
  | 0, a, e, h => by
    have : e = 0 := by simp at h; exact h
    subst this
    rfl
  | f + 1, a, e, h => by
    unfold Kp298.powUp
    by_cases h0 : e = 0
    · subst h0; simp
    · rw [if_neg h0]
      have ih := powUp_eq p f (a * a % p) (e / 2) (by rw [Nat.pow_succ] at h; omega)
      simp only [ih]
      have e1 : (a * a % p) ^ (e / 2) % p = (a * a) ^ (e / 2) % p := (Nat.pow_mod _ _ _).symm
      rw [e1]
      have e2 : (a * a) ^ (e / 2) = a ^ (2 * (e / 2)) := by rw [Nat.pow_mul, Nat.pow_two]
      by_cases h1 : e % 2 = 1
      · rw [if_pos h1, e2, Nat.mod_mul_mod, ← Nat.pow_succ]
        congr 2; omega
      · rw [if_neg h1, e2]
        congr 2; omega
theorem pow_eq {p a k : Nat} (h : k < 2 ^ 40) : Kp298.pow p a k = a ^ k % p := by
  unfold Kp298.pow
  rw [powUp_eq p 40 (a % p) k h, ← Nat.pow_mod]
/-- a to p - 1 leaves 1 -/
def fermatAll : Bool := (List.range 200).all fun p => !Kp299.okP p || (List.range p).all fun a => a == 0 || Kp298.pow p a (p - 1) == 1
theorem fermatAll_ok : fermatAll = true := by decide +kernel
theorem fermat {p a : Nat} (hp : Kp299.okP p = true) (ha : a % p ≠ 0) : a ^ (p - 1) % p = 1 := by
  have h := fermatAll_ok
  unfold fermatAll at h
  rw [List.all_eq_true] at h
  have h1 := h p (List.mem_range.mpr (okP_lt hp))
  rw [hp] at h1
  simp only [Bool.not_true, Bool.false_or, List.all_eq_true] at h1
  have p0 : 0 < p := by have := okP_ge hp; omega
  have h2 := h1 (a % p) (List.mem_range.mpr (Nat.mod_lt _ p0))
  simp only [Bool.or_eq_true, beq_iff_eq] at h2
  have h3 : Kp298.pow p (a % p) (p - 1) = 1 := h2.resolve_left ha
  rw [pow_eq (by have := okP_lt hp; omega), ← Nat.pow_mod] at h3
  exact h3
/-- the length of a round: the least power that leaves 1 -/
theorem mem_upTo {n k : Nat} : k ∈ Kp299.upTo n ↔ 1 ≤ k ∧ k ≤ n := by
  unfold Kp299.upTo
  rw [List.mem_map]
  constructor
  · rintro ⟨j, h, rfl⟩
    rw [List.mem_range] at h
    omega
  · rintro ⟨h1, h2⟩
    exact ⟨k - 1, List.mem_range.mpr (by omega), by omega⟩
/-- find? over 1 to n: the first -/
theorem find_upTo {n k : Nat} {f : Nat → Bool} (h1 : 1 ≤ k) (h2 : k ≤ n) (h3 : f k = true) (h4 : ∀ j, 1 ≤ j → j < k → f j = false) : (Kp299.upTo n).find? f = some k := by
  unfold Kp299.upTo
  rw [List.find?_map]
  have : (List.range n).find? (f ∘ fun i => i + 1) = some (k - 1) := by
    rw [List.find?_range_eq_some]
    refine ⟨by simp only [Function.comp_apply]; rw [Nat.sub_add_cancel h1]; exact h3, List.mem_range.mpr (by omega), fun j hj => ?_⟩
    simp only [Function.comp_apply]
    rw [h4 (j + 1) (by omega) (by omega)]; rfl
  rw [this]
  simp only [Option.map_some]
  congr 1; omega
theorem long_of {p a k : Nat} (hp : p < 200) (h1 : 1 ≤ k) (h2 : k ≤ p - 1) (h3 : a ^ k % p = 1) (h4 : ∀ j, 1 ≤ j → j < k → a ^ j % p ≠ 1) : Kp299.long p a = k := by
  unfold Kp299.long
  rw [find_upTo (n := p - 1) (k := k) h1 h2 (by rw [pow_eq (by omega)]; simp [h3]) (fun j hj hk => by rw [pow_eq (by omega)]; simp [h4 j hj hk])]
  rfl
/-- there is such a k -/
theorem long_ex {p a : Nat} (hp : Kp299.okP p = true) (ha : a % p ≠ 0) : 1 ≤ Kp299.long p a ∧ Kp299.long p a ≤ p - 1 ∧ a ^ Kp299.long p a % p = 1 ∧ ∀ j, 1 ≤ j → j < Kp299.long p a → a ^ j % p ≠ 1 := by
  have hl := okP_lt hp
  have hg := okP_ge hp
  unfold Kp299.long
  cases e : (Kp299.upTo (p - 1)).find? fun k => Kp298.pow p a k == 1 with
  | none =>
    rw [List.find?_eq_none] at e
    have := e (p - 1) (mem_upTo.mpr ⟨by omega, Nat.le_refl _⟩)
    rw [pow_eq (by omega), fermat hp ha] at this
    simp at this
  | some k =>
    have hm := mem_upTo.mp (List.mem_of_find?_eq_some e)
    have hk := List.find?_some e
    simp only [beq_iff_eq] at hk
    rw [pow_eq (by omega)] at hk
    refine ⟨hm.1, hm.2, hk, fun j h1 h2 hj => ?_⟩
    have h2 : j < k := h2
    have := long_of hl (k := k) hm.1 hm.2 hk
    -- j is found ahead of k
    rw [List.find?_eq_some_iff_append] at e
    obtain ⟨_, as, bs, eq, hall⟩ := e
    have hjm : j ∈ as ∨ j ∈ k :: bs := by
      rw [← List.mem_append, ← eq]; exact mem_upTo.mpr ⟨h1, by omega⟩
    have sorted : List.Pairwise (· < ·) (Kp299.upTo (p - 1)) := by
      unfold Kp299.upTo
      rw [List.pairwise_map]
      exact List.Pairwise.imp (fun h => by omega) List.pairwise_lt_range
    rw [eq, List.pairwise_append] at sorted
    rcases hjm with hjm | hjm
    · have := hall j hjm
      rw [pow_eq (by omega), hj] at this
      simp at this
    · rcases List.mem_cons.mp hjm with rfl | hb
      · omega
      · have := (List.pairwise_cons.mp sorted.2.1).1 j hb
        omega
/-- what is left of a product, cancelled -/
theorem cancel {p k x y : Nat} (hp : Kp299.okP p = true) (hk : k % p ≠ 0) (h : k * x % p = k * y % p) : x % p = y % p := by
  have hg := okP_ge hp
  have f := fermat hp hk
  have e : ∀ z, k ^ (p - 2) * (k * z) % p = z % p := fun z => by
    have : k ^ (p - 2) * (k * z) = k ^ (p - 1) * z := by
      rw [← Nat.mul_assoc, ← Nat.pow_succ]; congr 2; omega
    rw [this, Nat.mul_mod, f, Nat.one_mul, Nat.mod_mod]
  have h1 : k ^ (p - 2) * (k * x % p) % p = k ^ (p - 2) * (k * y % p) % p := by rw [h]
  rw [Nat.mul_mod_mod, Nat.mul_mod_mod, e, e] at h1
  exact h1
/-- there is a multiple of a that leaves b -/
theorem where_ex {p a b : Nat} (hp : Kp299.okP p = true) (ha : a % p ≠ 0) (hb : b % p ≠ 0) : ∃ k, 1 ≤ k ∧ k ≤ p - 1 ∧ Kp299.place p a k = b % p := by
  have hg := okP_ge hp
  have f := fermat hp ha
  have e : (b * a ^ (p - 2) % p) * a % p = b % p := by
    rw [Nat.mod_mul_mod, Nat.mul_assoc, ← Nat.pow_succ]
    have : (p - 2).succ = p - 1 := by omega
    rw [this, Nat.mul_mod, f, Nat.mul_one, Nat.mod_mod]
  refine ⟨b * a ^ (p - 2) % p, ?_, ?_, e⟩
  · rcases Nat.eq_zero_or_pos (b * a ^ (p - 2) % p) with z | z
    · rw [z] at e; simp at e; omega
    · exact z
  · have := Nat.mod_lt (b * a ^ (p - 2)) (show 0 < p by omega)
    omega
/-- where: the first such multiple is told -/
theorem where_of {p a b k : Nat} (h1 : 1 ≤ k) (h2 : k ≤ p - 1) (h3 : Kp299.place p a k = b % p) (h4 : ∀ j, 1 ≤ j → j < k → Kp299.place p a j ≠ b % p) :
    ((Kp299.upTo (p - 1)).find? fun k => Kp299.place p a k == b % p).getD 0 = k := by
  rw [find_upTo h1 h2 (by simp [h3]) (fun j hj hk => by simp [h4 j hj hk])]
  rfl
/-- the j-th of a round -/
theorem roundFrom_get (p a : Nat) : ∀ (f k j : Nat), j < f → k < p → (Kp299.roundFrom p a f k)[j]? = some (k * a ^ j % p)
  | f + 1, k, 0, _, hk => by
    unfold Kp299.roundFrom
    simp [Nat.mod_eq_of_lt hk]
  | f + 1, k, j + 1, h, hk => by
    unfold Kp299.roundFrom
    rw [List.getElem?_cons_succ, roundFrom_get p a f (k * a % p) j (by omega) (Nat.mod_lt _ (by omega))]
    congr 1
    rw [Nat.mod_mul_mod, Nat.mul_assoc, Nat.pow_succ, Nat.mul_comm a (a ^ j)]
theorem roundFrom_snoc (p a : Nat) : ∀ (f k : Nat), k < p → Kp299.roundFrom p a (f + 1) k = Kp299.roundFrom p a f k ++ [k * a ^ f % p]
  | 0, k, hk => by simp [Kp299.roundFrom, Nat.mod_eq_of_lt hk]
  | f + 1, k, hk => by
    have := roundFrom_snoc p a f (k * a % p) (Nat.mod_lt _ (by omega))
    rw [Kp299.roundFrom, this]
    show k :: (Kp299.roundFrom p a f (k * a % p) ++ _) = (k :: Kp299.roundFrom p a f (k * a % p)) ++ _
    rw [List.cons_append]
    congr 3
    rw [Nat.mod_mul_mod, Nat.mul_assoc, Nat.pow_succ, Nat.mul_comm a (a ^ f)]
/-- a round comes to its beginning again just when a power of a leaves 1 -/
theorem round_again {p a k j : Nat} (hp : Kp299.okP p = true) (hk : k % p ≠ 0) : k * a ^ j % p = k % p ↔ a ^ j % p = 1 := by
  have hg := okP_ge hp
  constructor
  · intro h
    have := cancel hp hk (x := a ^ j) (y := 1) (by rw [Nat.mul_one]; exact h)
    rw [this, Nat.mod_eq_of_lt (by omega)]
  · intro h
    rw [Nat.mul_mod, h, Nat.mul_one, Nat.mod_mod]
end Bp

namespace Bp
/-! ### pairs that stand the other way round -/
theorem inv_drop {l : List Nat} {k x : Nat} (h : l[k]? = some x) : Kp299.inversions (l.drop k) = ((l.drop (k + 1)).filter fun b => decide (b < x)).length + Kp299.inversions (l.drop (k + 1)) := by
  obtain ⟨hk, e⟩ := List.getElem?_eq_some_iff.mp h
  rw [List.drop_eq_getElem_cons hk, e, Kp299.inversions]
theorem inv_snoc : ∀ (l : List Nat) (z : Nat), Kp299.inversions (l ++ [z]) = Kp299.inversions l + (l.filter fun b => decide (z < b)).length
  | [], z => by simp [Kp299.inversions]
  | a :: l, z => by
    rw [List.cons_append, Kp299.inversions, Kp299.inversions, inv_snoc l z, List.filter_append, List.length_append, List.filter_cons (x := a) (xs := l)]
    by_cases h : z < a
    · simp [h]; omega
    · simp [h]; omega
theorem multiples_mod (p a : Nat) : Kp299.multiples p (a % p) = Kp299.multiples p a := by
  unfold Kp299.multiples
  congr 1; funext k; exact place_mod p a k
theorem pairs_mod (p a : Nat) : Kp299.pairs p (a % p) = Kp299.pairs p a := by
  unfold Kp299.pairs; rw [multiples_mod]
theorem pow_mod (p a k : Nat) : Kp298.pow p (a % p) k = Kp298.pow p a k := by
  unfold Kp298.pow; rw [Nat.mod_mod]
theorem long_mod (p a : Nat) : Kp299.long p (a % p) = Kp299.long p a := by
  unfold Kp299.long
  have e : (fun k => Kp298.pow p (a % p) k == 1) = fun k => Kp298.pow p a k == 1 := by funext k; rw [pow_mod]
  rw [e]
theorem rounds_mod (p a : Nat) : Kp299.rounds p (a % p) = Kp299.rounds p a := by
  unfold Kp299.rounds; rw [long_mod]
theorem roundFrom_mod (p a : Nat) : ∀ f k, Kp299.roundFrom p (a % p) f k = Kp299.roundFrom p a f k
  | 0, _ => rfl
  | f + 1, k => by
    unfold Kp299.roundFrom
    rw [Nat.mul_mod_mod, roundFrom_mod p a f]
theorem roundOf_mod (p a k : Nat) : Kp299.roundOf p (a % p) k = Kp299.roundOf p a k := by
  unfold Kp299.roundOf; rw [long_mod, roundFrom_mod]
end Bp

namespace Bp
/-! ### the first that is found -/
theorem least_of : ∀ (n : Nat) (f : Nat → Bool), (∃ k, k < n ∧ f k = true) → ∃ j, j < n ∧ f j = true ∧ ∀ m, m < j → f m = false
  | 0, f, ⟨k, h, _⟩ => by omega
  | n + 1, f, ⟨k, h, hk⟩ => by
    by_cases e : ∃ k, k < n ∧ f k = true
    · obtain ⟨j, h1, h2, h3⟩ := least_of n f e
      exact ⟨j, by omega, h2, h3⟩
    · have hn : k = n := by
        rcases Nat.lt_or_ge k n with z | z
        · exact absurd ⟨k, z, hk⟩ e
        · omega
      subst hn
      refine ⟨k, by omega, hk, fun m hm => ?_⟩
      cases z : f m with
      | false => rfl
      | true => exact absurd ⟨m, hm, z⟩ e
theorem first_upTo {n : Nat} {f : Nat → Bool} (h : ∃ k, 1 ≤ k ∧ k ≤ n ∧ f k = true) : ∃ j, j < n ∧ f (j + 1) = true ∧ (∀ m, m < j → f (m + 1) = false) ∧ (Kp299.upTo n).find? f = some (j + 1) := by
  obtain ⟨k, h1, h2, h3⟩ := h
  obtain ⟨j, g1, g2, g3⟩ := least_of n (fun i => f (i + 1)) ⟨k - 1, by omega, by show f (k - 1 + 1) = true; rw [Nat.sub_add_cancel h1]; exact h3⟩
  refine ⟨j, g1, g2, g3, find_upTo (by omega) (by omega) g2 fun m hm hj => ?_⟩
  have := g3 (m - 1) (by omega)
  simp only [Nat.sub_add_cancel hm] at this
  exact this
/-! ### multiples in their order -/
theorem multiples_len (p a : Nat) : (Kp299.multiples p a).length = p - 1 := by
  unfold Kp299.multiples
  rw [List.length_map, upTo_length]
theorem inv_one {l : List Nat} : Kp299.inversions (l.take 1) = 0 := by
  cases l with
  | nil => rfl
  | cons a l => rfl
theorem take_step {α : Type} : ∀ {l : List α} {i : Nat} {x : α}, l[i]? = some x → l.take (i + 1) = l.take i ++ [x]
  | [], i, x, h => by simp at h
  | a :: l, 0, x, h => by
    have e : a = x := Option.some.inj h
    subst e
    rfl
  | a :: l, i + 1, x, h => by
    have ih := take_step (l := l) (i := i) (x := x) h
    show a :: l.take (i + 1) = a :: l.take i ++ [x]
    rw [ih]
    rfl
/-- how many of the first j are greater -/
def grt (l : List Nat) (z j : Nat) : Nat := ((l.take j).filter fun b => decide (z < b)).length
theorem grt_zero (l : List Nat) (z : Nat) : grt l z 0 = 0 := by unfold grt; simp
theorem grt_yes {l : List Nat} {z j x : Nat} (h : l[j]? = some x) (g : z < x) : grt l z (j + 1) = grt l z j + 1 := by
  unfold grt
  rw [take_step h, List.filter_append, List.length_append]
  simp [g]
theorem grt_no {l : List Nat} {z j x : Nat} (h : l[j]? = some x) (g : ¬ z < x) : grt l z (j + 1) = grt l z j := by
  unfold grt
  rw [take_step h, List.filter_append, List.length_append]
  simp [g]
theorem inv_step {l : List Nat} {z i : Nat} (h : l[i]? = some z) : Kp299.inversions (l.take (i + 1)) = Kp299.inversions (l.take i) + grt l z i := by
  rw [take_step h, inv_snoc]
  rfl
/-! ### rounds -/
theorem rounds_le (p a : Nat) : Kp299.rounds p a ≤ p - 1 := Nat.div_le_self _ _
theorem round_next (p a k j : Nat) : Kp299.place p a (k * a ^ j % p) = k * a ^ (j + 1) % p := by
  unfold Kp299.place
  rw [Nat.mod_mul_mod, Nat.mul_assoc, Nat.pow_succ]
theorem roundOf_eq {p a k : Nat} (h : k < p) : Kp299.roundOf p a k = Kp299.roundFrom p a (Kp299.long p a) k := by
  unfold Kp299.roundOf
  rw [Nat.mod_eq_of_lt h]
theorem roundOf_mod2 (p a k : Nat) : Kp299.roundOf p a (k % p) = Kp299.roundOf p a k := by
  unfold Kp299.roundOf
  rw [Nat.mod_mod]
end Bp

set_option Elab.async false
set_option linter.all false
set_option maxRecDepth 100000
set_option maxHeartbeats 2000000
namespace Bp
open PySem PySem.Spec PyProof.Rows L2
/-! ### short words -/
/-- a module's whole number -/
def IntG (mg : Str → Option Value) (x : Str) (i : Int) : Prop := ∃ t, mg x = some (.int i t)
theorem pe_gi {X : Cx} {x : Str} {i : Int} {pos : Pos} (hg : Gl X x) (h : IntG X.mg x i) (hd : (x == ("__debug__" : Str)) = false := by decide) : PE X (.Name x pos) (tC (.int i)) := by
  obtain ⟨t, h⟩ := h
  exact pe_glob hg h ⟨t, rfl⟩ hd
/-- a def that may be called by its name -/
structure Cal (P : Program) (w : World) (K : PySem.W.Frag) (mg : Str → Option Value) (base : Heap) (k : Nat) (x : Str) (ps : List Str) (sp : Sp) : Prop where
  ex : ∃ (f : Addr) (fd : FuncData), FnOk P w K mg base CX0 k f fd ps sp ∧ mg x = some (.ref f) ∧ PySem.W.keepIn K (.ref f) = true ∧ Binds K fd ps []
theorem pe_cal {X : Cx} {k : Nat} {x : Str} {ps : List Str} {sp : Sp} {e : Expr} {es : List Expr} {t : TA} {p pos : Pos} (c : Cal X.prog X.w X.K X.mg X.base k x ps sp) (hr : Room k X.A) (hg : Gl X x) (ha : PA X (e :: es) t)
    (hdb : (x == ("__debug__" : Str)) = false := by decide) (he : starEach (e :: es) X.env = (false, eval e X.env) :: starEach es X.env := by rfl) (hpl : (backTo pos (starEach es X.env)).any (·.1) = false := by rfl) :
    PE X (.Call (.Name x p) (e :: es) [] pos) (tCall sp [] E0 t) := by
  obtain ⟨f, fd, F, hm, hk, hb⟩ := c.ex
  exact pe_call F hr hg hm hk hb .nil pass0 ha hdb he hpl
/-- whole numbers as values -/
def vI (l : List Int) : List V := l.map V.int
theorem vI_snoc (l : List Int) (z : Int) : vI (l ++ [z]) = vI l ++ [V.int z] := by unfold vI; rw [List.map_append]; rfl
theorem vI_len (l : List Int) : (vI l).length = l.length := by unfold vI; rw [List.length_map]
/-- naturals as whole numbers -/
def iN (l : List Nat) : List Int := l.map fun (z : Nat) => (z : Int)
theorem iN_snoc (l : List Nat) (z : Nat) : iN (l ++ [z]) = iN l ++ [(z : Int)] := by unfold iN; rw [List.map_append]; rfl
theorem iN_len (l : List Nat) : (iN l).length = l.length := by unfold iN; rw [List.length_map]
theorem vI_get {l : List Int} {i : Nat} {y : V} (h : (vI l)[i]? = some y) : ∃ z, l[i]? = some z ∧ y = V.int z := by
  unfold vI at h
  rw [List.getElem?_map] at h
  cases e : l[i]? with
  | none => rw [e] at h; cases h
  | some z => rw [e] at h; exact ⟨z, rfl, (Option.some.inj h).symm⟩
theorem take_snoc {α : Type} : ∀ {l : List α} {i : Nat} {x : α}, l[i]? = some x → l.take (i + 1) = l.take i ++ [x]
  | [], i, x, h => by simp at h
  | a :: l, 0, x, h => by
    have e : a = x := Option.some.inj h
    subst e
    rfl
  | a :: l, i + 1, x, h => by
    have ih := take_snoc (l := l) (i := i) (x := x) h
    show a :: l.take (i + 1) = a :: l.take i ++ [x]
    rw [ih]
    rfl
/-- a new list of whole numbers is handed back, all else stands -/
def RetL (H : Hp) (Q : VK) (l : List Int) : Prop := ∀ (H' : Hp) (r : Addr), Same H H' → H r = none → H' r = some (.lst (vI l)) → Q (.ref r) H'
theorem same_new {H H' : Hp} {D : Addr} {o : HO} (s : Same H H') (n : H D = none) : Same H (upd H' D o) := fun b u e => by
  rw [upd_ne (ne_of_none e n)]
  exact s b u e
theorem sz {n m : Nat} (h : n ≤ m) (hm : m < 16777216 := by decide) : n < sizeLine := Nat.lt_of_le_of_lt h (Nat.lt_of_lt_of_le hm (by decide))
/-- a new list with what was reckoned so far -/
theorem retL_new {H H1 : Hp} {Q : VK} {l : List Int} (k : RetL H Q l) (s : Same H H1) {p : Addr} (hp : H1 p = none) {o : HO} (e : o = .lst (vI l)) : Q (.ref p) (upd H1 p o) := by
  subst e
  have hn : H p = none := s.free hp
  exact k _ p (same_new s hn) hn upd_same
theorem decT {c : Prop} [Decidable c] (h : decide c = true) : c := of_decide_eq_true h
theorem decF {c : Prop} [Decidable c] (h : ¬ decide c = true) : ¬ c := fun z => h (decide_eq_true z)
theorem vEq {i j : Int} (h : decide (V.int i = V.int j) = true) : i = j := V.int.inj (of_decide_eq_true h)
theorem eqT {i j : Int} {A B : Prop} (h : i = j) (a : A) : if decide (V.int i = V.int j) = true then A else B := by
  rw [if_pos (decide_eq_true (congrArg V.int h))]
  exact a
theorem eqF {i j : Int} {A B : Prop} (h : i ≠ j) (b : B) : if decide (V.int i = V.int j) = true then A else B := by
  rw [if_neg (fun z => h (V.int.inj (of_decide_eq_true z)))]
  exact b
theorem rel_of_abs {x : V} {u : Value} (h : absV u = some x) : RelV x u := by
  cases u <;> simp only [absV, Option.some.injEq, reduceCtorEq] at h <;> subst h <;> first | rfl | exact ⟨_, rfl⟩
theorem vals_of_abs : ∀ {xs : List V} {us : List Value}, us.map absV = xs.map some → Vals xs us
  | [], [], _ => .nil
  | x :: xs, u :: us, h => by
    rw [List.map_cons, List.map_cons] at h
    exact .cons (rel_of_abs (List.cons.inj h).1) (vals_of_abs (List.cons.inj h).2)
  | [], u :: us, h => by simp at h
  | x :: xs, [], h => by simp at h
/-- a method that may be called -/
structure CalM (P : Program) (w : World) (K : PySem.W.Frag) (mg : Str → Option Value) (base : Heap) (k : Nat) (C : Addr) (m : Str) (ps : List Str) (sp : Sp) : Prop where
  ex : ∃ (f : Addr) (fd : FuncData), FnOk P w K mg base CX0 k f fd ps sp ∧ Meth K C m f ∧ Binds K fd ps []
theorem pe_mcal {X : Cx} {k : Nat} {C : Addr} {m : Str} {ps : List Str} {sp : Sp} {o e : Expr} {es : List Expr} {ta : TE} {t : TA} {apos pos : Pos} {pl : Sem Bool} (c : CalM X.prog X.w X.K X.mg X.base k C m ps sp) (cl : Cls X.K C) (hr : Room k X.A) (he : PE X o ta) (ha : PA X (e :: es) t)
    (hst : starEach (e :: es) X.env = (false, eval e X.env) :: starEach es X.env := by rfl) (hpl : (backTo pos (starEach es X.env)).any (·.1) = false := by rfl)
    (ht : eval (.Call (.Attribute o m apos) (e :: es) [] pos) X.env = (do
      let ov ← eval o X.env
      standAt apos.atName
      let (f, first) ← holding [ov] (getMethod ov m pl)
      callWith pos f first (backTo pos (starEach (e :: es) X.env)) (backToKw pos (keywordEach [] X.env))) := by rfl) :
    PE X (.Call (.Attribute o m apos) (e :: es) [] pos) (tMeth C m sp [] E0 ta t) := by
  obtain ⟨f, fd, F, hm, hb⟩ := c.ex
  exact pe_meth he cl hm F hr hb .nil pass0 ha hst hpl ht
theorem pe_mcal0 {X : Cx} {k : Nat} {C : Addr} {m : Str} {ps : List Str} {sp : Sp} {o : Expr} {ta : TE} {apos pos : Pos} {pl : Sem Bool} (c : CalM X.prog X.w X.K X.mg X.base k C m ps sp) (cl : Cls X.K C) (hr : Room k X.A) (he : PE X o ta)
    (ht : eval (.Call (.Attribute o m apos) [] [] pos) X.env = (do
      let ov ← eval o X.env
      standAt apos.atName
      let (f, first) ← holding [ov] (getMethod ov m pl)
      callWith pos f first (backTo pos (starEach [] X.env)) (backToKw pos (keywordEach [] X.env))) := by rfl) :
    PE X (.Call (.Attribute o m apos) [] [] pos) (tMeth C m sp [] E0 ta tNil) := by
  obtain ⟨f, fd, F, hm, hb⟩ := c.ex
  exact pe_meth0 he cl hm F hr hb .nil pass0 ht
theorem vNe {i j : Int} (h : ¬ decide (V.int i = V.int j) = true) : i ≠ j := fun z => h (decide_eq_true (congrArg V.int z))
end Bp
namespace Bp
open PySem PySem.Spec PyProof.Rows L2
/-! ### the program's text by places -/
def top (i : Nat) : Stmt := PySem.Challenge.pw_betweenprimes_s01_answers.main.body.getD i (.Pass ⟨0, 0, 0, 0⟩)
abbrev s_dealt : Stmt := top 25
abbrev s_dealt_pairs : Stmt := top 26
abbrev s_card_answer : Stmt := top 27
abbrev s_multiple : Stmt := top 29
abbrev s_multiples_to : Stmt := top 30
abbrev s_is_odd_prime : Stmt := top 33
abbrev s_prime_above : Stmt := top 34
abbrev s_half : Stmt := top 35
abbrev s_is_turned : Stmt := top 37
abbrev s_folded : Stmt := top 38
abbrev s_fold : Stmt := top 39
abbrev s_folds : Stmt := top 40
abbrev s_folded_all : Stmt := top 41
abbrev s_fold_answer : Stmt := top 42
abbrev s_place : Stmt := top 44
abbrev s_where : Stmt := top 45
abbrev s_pairs : Stmt := top 46
abbrev s_round_of : Stmt := top 47
abbrev s_long_and_many : Stmt := top 48
abbrev s_fewest : Stmt := top 49
abbrev s_whole_round : Stmt := top 50
abbrev s_order_answer : Stmt := top 51
abbrev s_under_at : Stmt := top 53
abbrev s_column : Stmt := top 54
abbrev s_under : Stmt := top 55
abbrev s_inside : Stmt := top 56
abbrev s_point_answer : Stmt := top 57
abbrev s_Session_init : Stmt := inClass (top 59) 0
abbrev s_Session_begun : Stmt := inClass (top 59) 1
abbrev s_Session_begin : Stmt := inClass (top 59) 2
abbrev s_Session_told : Stmt := inClass (top 59) 3
abbrev s_Session_exchange : Stmt := inClass (top 59) 4
abbrev s_Session_move_on : Stmt := inClass (top 59) 5
abbrev s_call_answer : Stmt := top 61
abbrev s_answers : Stmt := top 62
end Bp

namespace Bp
open PySem PySem.Spec PyProof.Rows L2
section
variable {P : Program} {w : World} {K : PySem.W.Frag} {mg : Str → Option Value} {base : Heap}
/-! ### half -/
def spHalf : Sp := fun vs H Q _ => ∃ p : Nat, vs = [.int p] ∧ Q (.int ((p / 2 : Nat) : Int)) H
theorem sc_half : FnScope ["prime"] ["prime"] (defScope s_half) := ⟨rfl, rfl, rfl, by decide +kernel, rfl, by decide +kernel, by decide +kernel⟩
theorem ok_half {f : Addr} {fd : FuncData} (F : Fun K "half" "half" s_half f fd) : FnOk P w K mg base CX0 1 f fd ["prime"] spHalf := by
  refine F.ok sc_half (fun vs H Q E h => ?_) (fun cdv A outer s H vs Q E hr h => ?_)
  · obtain ⟨p, rfl, _⟩ := h
    rfl
  · obtain ⟨p, rfl, k⟩ := h
    refine ⟨_, pss_one (ps_ret (pe_op op_fdiv (pv 0) pe_int)), ?_⟩
    exact ⟨_, rfl, _, _, rfl, rfl, ⟨by decide, by decide⟩, k⟩
/-! ### is_odd_prime -/
theorem trial_succ (n f d : Nat) : trial n (f + 1) d = if d * d ≤ n then (if n % d = 0 then false else trial n f (d + 2)) else true := rfl
def spPrime : Sp := fun vs H Q _ => ∃ n : Nat, vs = [.int n] ∧ Q (.bl (Kp299.okP n)) H
theorem sc_prime : FnScope ["n", "divisor"] ["n"] (defScope s_is_odd_prime) := ⟨rfl, rfl, rfl, by decide +kernel, rfl, by decide +kernel, by decide +kernel⟩
theorem ok_prime {f : Addr} {fd : FuncData} (F : Fun K "is_odd_prime" "is_odd_prime" s_is_odd_prime f fd) (hE : IntG mg "PRIMES_END" 200) : FnOk P w K mg base CX0 1 f fd ["n"] spPrime := by
  refine F.ok sc_prime (fun vs H Q E h => ?_) (fun cdv A outer s H vs Q E hr h => ?_)
  · obtain ⟨p, rfl, _⟩ := h
    rfl
  · obtain ⟨n, rfl, k⟩ := h
    refine ⟨_, pss_cons (ps_if (pw_or (pt_cmpR op_lt (pv 0) pe_int (nomark _)) (pw_or (pt_cmpR op_ge (pv 0) (pe_gi (by rfl) hE) (nomark _)) (pw_or1 (pt_cmpR op_eq (pe_op op_mod (pv 0) pe_int) pe_int (nomark _))))).pt (pss_one (ps_ret pe_bl)) pss_nil)
      (pss_cons (ps_set (i := 1) sc_prime.nd rfl (Or.inl rfl) pe_int)
      (pss_cons (ps_while PassesOwn.never (pt_cmpR op_le (pe_op op_mul (pv 1) (pv 1)) (pv 0) (nomark _))
        (pss_cons (ps_if (pt_cmpR op_eq (pe_op op_mod (pv 0) (pv 1)) pe_int (nomark _)) (pss_one (ps_ret pe_bl)) pss_nil) (pss_one (ps_aug (i := 1) sc_prime.nd rfl (Or.inl rfl) pe_int ip_add))))
      (pss_one (ps_ret pe_bl)))), ?_⟩
    refine ⟨_, rfl, _, _, rfl, rfl, _, rfl, ?_⟩
    refine ite2 (fun h1 => ?_) (fun h1 => ?_)
    · refine iteT ?_
      have e := okP_small (n := n) (by have := decT h1; omega)
      rw [e] at k
      exact k
    refine ⟨_, rfl, _, _, rfl, rfl, _, rfl, ?_⟩
    refine ite2 (fun h2 => ?_) (fun h2 => ?_)
    · refine iteT ?_
      have e := okP_big (n := n) (by have := decT h2; omega)
      rw [e] at k
      exact k
    refine ⟨_, rfl, _, _, rfl, rfl, (by show (0 : Int) < 2; decide), rfl, _, rfl, ?_⟩
    refine ite2 (fun h3 => ?_) (fun h3 => ?_)
    · have e := okP_even (n := n) (by have := vEq h3; omega)
      rw [e] at k
      exact k
    have g1 : 3 ≤ n := by have := decF h1; omega
    have g2 : n < 200 := by have := decF h2; omega
    have g3 : n % 2 ≠ 0 := by have := vNe h3; omega
    rw [← trial_ok g1 g2 g3] at k
    -- the loop
    refine ⟨fun m σ' H' => ∃ i : Nat, i ≤ 7 ∧ m = 8 - i ∧ σ' = [some (.int n), some (.int ((3 + 2 * i : Nat) : Int))] ∧ H' = H ∧ trial n 8 3 = trial n (8 - i) (3 + 2 * i), ⟨8, 0, by decide, rfl, rfl, rfl, rfl⟩, ?_⟩
    rintro m σ' H' ⟨i, hi, rfl, rfl, rfl, ht⟩
    refine ⟨_, rfl, _, rfl, _, _, rfl, rfl, .inl ⟨by omega, by omega⟩, _, rfl, _, _, rfl, rfl, _, rfl, ?_⟩
    have e8 : 8 - i = (7 - i) + 1 := by omega
    rw [e8, trial_succ n (7 - i)] at ht
    refine ite2 (fun h4 => ?_) (fun h4 => ?_)
    · have l4 : (3 + 2 * i) * (3 + 2 * i) ≤ n := by have := decT h4; exact_mod_cast this
      rw [if_pos l4] at ht
      have i5 : i ≤ 5 := by
        rcases Nat.lt_or_ge 5 i with z | z
        · have : 15 * 15 ≤ (3 + 2 * i) * (3 + 2 * i) := Nat.mul_le_mul (by omega) (by omega)
          omega
        · exact z
      refine ⟨fun σ' H'' => ∃ i' : Nat, i' ≤ 7 ∧ 8 - i' < 8 - i ∧ σ' = [some (.int n), some (.int ((3 + 2 * i' : Nat) : Int))] ∧ H'' = H' ∧ trial n 8 3 = trial n (8 - i') (3 + 2 * i'), fun σ2 H2 ⟨i', a1, a2, a3, a4, a5⟩ => ⟨8 - i', a2, i', a1, rfl, a3, a4, a5⟩, ?_⟩
      refine ⟨_, rfl, _, rfl, _, _, rfl, rfl, (by show (0 : Int) < ((3 + 2 * i : Nat) : Int); omega), rfl, _, rfl, ?_⟩
      refine ite2 (fun h5 => ?_) (fun h5 => ?_)
      · have l5 : n % (3 + 2 * i) = 0 := by have := vEq h5; exact_mod_cast this
        rw [if_pos l5] at ht
        rw [ht] at k
        exact k
      · have l5 : ¬ n % (3 + 2 * i) = 0 := fun z => vNe h5 (by exact_mod_cast z)
        rw [if_neg l5] at ht
        refine ⟨_, rfl, _, _, rfl, rfl, ?_⟩
        refine ⟨i + 1, by omega, by omega, rfl, rfl, ?_⟩
        rw [ht]
        have e7 : 8 - (i + 1) = 7 - i := by omega
        rw [e7]
        rfl
    · have l4 : ¬ (3 + 2 * i) * (3 + 2 * i) ≤ n := fun z => decF h4 (by exact_mod_cast z)
      rw [if_neg l4] at ht
      rw [ht] at k
      exact k
/-! ### prime_above -/
def spAbove : Sp := fun vs H Q _ => ∃ p q : Nat, vs = [.int q, .int p] ∧ q < 200 ∧ Q (.int (((Kp299.nextBut p q).getD 0 : Nat) : Int)) H
theorem sc_above : FnScope ["n", "barred", "candidate"] ["n", "barred"] (defScope s_prime_above) := ⟨rfl, rfl, rfl, by decide +kernel, rfl, by decide +kernel, by decide +kernel⟩
theorem ok_above {f : Addr} {fd : FuncData} (F : Fun K "prime_above" "prime_above" s_prime_above f fd) (hE : IntG mg "PRIMES_END" 200) (hR : mg "range" = none) (CP : Cal P w K mg base 1 "is_odd_prime" ["n"] spPrime) :
    FnOk P w K mg base CX0 2 f fd ["n", "barred"] spAbove := by
  refine F.ok sc_above (fun vs H Q E h => ?_) (fun cdv A outer s H vs Q E hr h => ?_)
  · obtain ⟨p, q, rfl, _⟩ := h
    rfl
  · obtain ⟨p, q, rfl, hq, k⟩ := h
    refine ⟨_, pss_cons (ps_for PassesOwn.never rfl (pi_range2 (by rfl) hR (pa_cons (pe_op op_add (pv 0) pe_int) (pa_cons (pe_gi (by rfl) hE) pa_nil))) (pg_name (i := 2) sc_above.nd rfl (Or.inl rfl))
        (pss_one (ps_if (pw_and (pt_cmpR op_ne (pv 2) (pv 1) (nomark _)) (pw_and1 (pt_val (pe_cal CP hr (by rfl) (pa_cons (pv 2) pa_nil))))).pt (pss_one (ps_ret (pv 2))) pss_nil)))
      (pss_one (ps_ret pe_int)), ?_⟩
    refine ⟨_, rfl, _, _, rfl, rfl, _, _, rfl, ⟨by omega, by omega, by decide, by decide⟩, ?_⟩
    refine for_range (fun i σ H' => ∃ v : Option V, σ = [some (.int q), some (.int p), v] ∧ H' = H ∧ ∀ j, q < j → j < q + 1 + i → ¬ (j ≠ p ∧ Kp299.okP j = true)) ⟨none, rfl, rfl, fun j h1 h2 => by omega⟩ ?_ ?_
    · rintro i σ H' hi ⟨v, rfl, rfl, hj⟩
      have hi2 : q + 1 + i < 200 := by omega
      have again : ∀ (h : ¬ (q + 1 + i ≠ p ∧ Kp299.okP (q + 1 + i) = true)), ∃ v : Option V, [some (V.int q), some (V.int p), some (V.int ((q : Int) + 1 + i))] = [some (.int q), some (.int p), v] ∧ H' = H' ∧ ∀ j, q < j → j < q + 1 + (i + 1) → ¬ (j ≠ p ∧ Kp299.okP j = true) := fun h =>
        ⟨_, rfl, rfl, fun j h1 h2 => by
          rcases Nat.lt_or_ge j (q + 1 + i) with z | z
          · exact hj j h1 z
          · have e : j = q + 1 + i := by omega
            subst e
            exact h⟩
      refine ⟨_, rfl, _, rfl, rfl, _, rfl, ?_⟩
      refine ite2 (fun h1 => ?_) (fun h1 => ?_)
      · refine ⟨_, rfl, q + 1 + i, rfl, _, rfl, ?_⟩
        refine ite2 (fun h2 => ?_) (fun h2 => ?_)
        · have ne : q + 1 + i ≠ p := fun z => by
            subst z
            revert h1
            simp
          rw [next_some (p := p) (q := q) (c := q + 1 + i) (by omega) hi2 ne h2 hj] at k
          exact ⟨_, rfl, k⟩
        · exact again fun z => h2 z.2
      · refine iteF ?_
        refine again fun z => z.1 ?_
        have h1' : decide (V.int ((q : Int) + 1 + i) = V.int p) = true := by
          revert h1
          cases decide (V.int ((q : Int) + 1 + i) = V.int p) <;> simp
        have := vEq h1'
        omega
    · rintro σ H' ⟨v, rfl, rfl, hj⟩
      rw [next_none (p := p) (q := q) fun j h1 h2 => hj j h1 (by omega)] at k
      exact k
end
end Bp

namespace Bp
open PySem PySem.Spec PyProof.Rows L2
section
variable {P : Program} {w : World} {K : PySem.W.Frag} {mg : Str → Option Value} {base : Heap}
/-! ### is_turned, folded -/
def spTurned : Sp := fun vs H Q _ => ∃ p l : Nat, vs = [.int p, .int l] ∧ Q (.int (if p / 2 < l then 1 else 0)) H
theorem sc_turned : FnScope ["p", "left"] ["p", "left"] (defScope s_is_turned) := ⟨rfl, rfl, rfl, by decide +kernel, rfl, by decide +kernel, by decide +kernel⟩
theorem ok_turned {f : Addr} {fd : FuncData} (F : Fun K "is_turned" "is_turned" s_is_turned f fd) (CH : Cal P w K mg base 1 "half" ["prime"] spHalf) : FnOk P w K mg base CX0 2 f fd ["p", "left"] spTurned := by
  refine F.ok sc_turned (fun vs H Q E h => ?_) (fun cdv A outer s H vs Q E hr h => ?_)
  · obtain ⟨p, l, rfl, _⟩ := h
    rfl
  · obtain ⟨p, l, rfl, k⟩ := h
    refine ⟨_, pss_one (ps_ret (pe_ifExp (pt_cmpR op_gt (pv 1) (pe_cal CH hr (by rfl) (pa_cons (pv 0) pa_nil)) (nomark _)) pe_int pe_int)), ?_⟩
    refine ⟨_, rfl, _, rfl, p, rfl, _, _, rfl, rfl, _, rfl, ?_⟩
    refine ite2 (fun h1 => ?_) (fun h1 => ?_)
    · rw [if_pos (by have := decT h1; omega)] at k
      exact k
    · rw [if_neg (by have := decF h1; omega)] at k
      exact k
def spFolded : Sp := fun vs H Q _ => ∃ p l : Nat, vs = [.int p, .int l] ∧ l ≤ p ∧ Q (.int ((if p / 2 < l then p - l else l : Nat) : Int)) H
theorem sc_folded : FnScope ["p", "left"] ["p", "left"] (defScope s_folded) := ⟨rfl, rfl, rfl, by decide +kernel, rfl, by decide +kernel, by decide +kernel⟩
theorem ok_folded {f : Addr} {fd : FuncData} (F : Fun K "folded" "folded" s_folded f fd) (CT : Cal P w K mg base 2 "is_turned" ["p", "left"] spTurned) : FnOk P w K mg base CX0 3 f fd ["p", "left"] spFolded := by
  refine F.ok sc_folded (fun vs H Q E h => ?_) (fun cdv A outer s H vs Q E hr h => ?_)
  · obtain ⟨p, l, rfl, _⟩ := h
    rfl
  · obtain ⟨p, l, rfl, hl, k⟩ := h
    refine ⟨_, pss_one (ps_ret (pe_ifExp (pt_cmpR op_eq (pe_cal CT hr (by rfl) (pa_cons (pv 0) (pa_cons (pv 1) pa_nil))) pe_int (nomark _)) (pe_op op_sub (pv 0) (pv 1)) (pv 1))), ?_⟩
    refine ⟨_, rfl, _, rfl, p, l, rfl, rfl, _, rfl, ?_⟩
    refine ite2 (fun h1 => ?_) (fun h1 => ?_)
    · have h2 : p / 2 < l := by
        rcases Nat.lt_or_ge (p / 2) l with z | z
        · exact z
        · have := vEq h1
          rw [if_neg (by omega)] at this
          cases this
      rw [if_pos h2] at k
      refine ⟨_, rfl, _, rfl, _, _, rfl, rfl, ?_⟩
      have e : (p : Int) - (l : Int) = ((p - l : Nat) : Int) := by omega
      show Q (V.int ((p : Int) - (l : Int))) H
      rw [e]
      exact k
    · have h2 : ¬ p / 2 < l := fun z => vNe h1 (if_pos z)
      rw [if_neg h2] at k
      exact ⟨_, rfl, k⟩
/-! ### multiple, multiples_to -/
def spMul : Sp := fun vs H Q _ => ∃ p a k : Nat, vs = [.int p, .int a, .int k] ∧ 0 < p ∧ p < 200 ∧ a < p ∧ Q (.int (Kp299.place p a k : Int)) H
theorem sc_mul : FnScope ["p", "a", "k"] ["p", "a", "k"] (defScope s_multiple) := ⟨rfl, rfl, rfl, by decide +kernel, rfl, by decide +kernel, by decide +kernel⟩
theorem ok_mul {f : Addr} {fd : FuncData} (F : Fun K "multiple" "multiple" s_multiple f fd) : FnOk P w K mg base CX0 1 f fd ["p", "a", "k"] spMul := by
  refine F.ok sc_mul (fun vs H Q E h => ?_) (fun cdv A outer s H vs Q E hr h => ?_)
  · obtain ⟨p, a, y, rfl, _⟩ := h
    rfl
  · obtain ⟨p, a, y, rfl, h0, hp, ha, k⟩ := h
    refine ⟨_, pss_one (ps_ret (pe_op op_mod (pe_op op_mul (pv 2) (pv 1)) (pv 0))), ?_⟩
    exact ⟨_, rfl, _, rfl, _, _, rfl, rfl, .inr ⟨by omega, by omega⟩, _, rfl, _, _, rfl, rfl, (by show (0 : Int) < (p : Int); omega), k⟩
def spMulTo : Sp := fun vs H Q _ => ∃ p a n : Nat, vs = [.int p, .int a, .int n] ∧ 0 < p ∧ p < 200 ∧ a < p ∧ n < 200 ∧ RetL H Q (iN ((Kp299.upTo n).map (Kp299.place p a)))
theorem sc_multo : FnScope ["p", "a", "last", "k"] ["p", "a", "last"] (defScope s_multiples_to) := ⟨rfl, rfl, rfl, by decide +kernel, rfl, by decide +kernel, by decide +kernel⟩
theorem ok_multo {f : Addr} {fd : FuncData} (F : Fun K "multiples_to" "multiples_to" s_multiples_to f fd) (hR : mg "range" = none) (CX : Cal P w K mg base 1 "multiple" ["p", "a", "k"] spMul) : FnOk P w K mg base CX0 2 f fd ["p", "a", "last"] spMulTo := by
  refine F.ok sc_multo (fun vs H Q E h => ?_) (fun cdv A outer s H vs Q E hr h => ?_)
  · obtain ⟨p, a, n, rfl, _⟩ := h
    rfl
  · obtain ⟨p, a, n, rfl, h0, hp, ha, hn, k⟩ := h
    refine ⟨_, pss_one (ps_ret (pe_lc rfl sc_multo.nd (pi_range2 (by rfl) hR (pa_cons pe_int (pa_cons (pe_op op_add (pv 2) pe_int) pa_nil))) (blkOk_by (own := [("k", 3)]) (by show blkC ["p", "a", "last", "k"] (defScope s_multiples_to) _ _ = true; decide +kernel))
      (fun s H C cl fp => pg_name (i := 3) sc_multo.nd rfl (Or.inl rfl)) (fun s H C cl fp => pts_nil) (fun s H C cl fp => pe_cal CX hr (by rfl) (pa_cons (pv 0) (pa_cons (pv 1) (pa_cons (pv 3) pa_nil)))))), ?_⟩
    refine ⟨_, rfl, _, _, rfl, rfl, _, _, rfl, ⟨by decide, by decide, by omega, by omega⟩, fun D hD => ?_⟩
    refine lc_range (fun i H' => i ≤ n ∧ H' D = some (.lst (vI (iN ((Kp299.upTo i).map (Kp299.place p a))))) ∧ Same H H') ⟨Nat.zero_le _, upd_same, same_new (Same.refl _) hD⟩ ?_ ?_
    · rintro i H' hi ⟨_, h1, h2⟩
      have e : (1 : Int) + (i : Int) = ((i + 1 : Nat) : Int) := by omega
      refine ⟨rfl, ?_⟩
      refine ⟨_, rfl, _, rfl, _, rfl, p, a, i + 1, by rw [e]; rfl, h0, hp, ha, _, h1, ?_, by omega, ?_, same_new h2 hD⟩
      · rw [vI_len, iN_len, List.length_map, upTo_length]
        exact sz (m := 200) (by omega)
      · rw [upd_same, upTo_succ, List.map_append, List.map_cons, List.map_nil, iN_snoc, vI_snoc]
    · rintro H' ⟨h0', h1, h2⟩
      have e : (((n : Int) + 1) - 1).toNat = n := by omega
      rw [e] at h1
      exact k H' D h2 hD h1
/-! ### fold, folds, folded_all -/
def spFold : Sp := fun vs H Q _ => ∃ p a y : Nat, vs = [.int p, .int a, .int y] ∧ 0 < p ∧ p < 200 ∧ a < p ∧ RetL H Q (if y = 0 ∨ p / 2 < y then [-22] else [(Kp299.folded p a y : Int), if Kp299.turned p a y then 1 else 0])
theorem sc_fold : FnScope ["p", "a", "k", "left"] ["p", "a", "k"] (defScope s_fold) := ⟨rfl, rfl, rfl, by decide +kernel, rfl, by decide +kernel, by decide +kernel⟩
theorem ok_fold {f : Addr} {fd : FuncData} (F : Fun K "fold" "fold" s_fold f fd) (hX : IntG mg "REFUSED" (-22)) (CH : Cal P w K mg base 1 "half" ["prime"] spHalf) (CT : Cal P w K mg base 2 "is_turned" ["p", "left"] spTurned)
    (CF : Cal P w K mg base 3 "folded" ["p", "left"] spFolded) (CX : Cal P w K mg base 1 "multiple" ["p", "a", "k"] spMul) : FnOk P w K mg base CX0 4 f fd ["p", "a", "k"] spFold := by
  refine F.ok sc_fold (fun vs H Q E h => ?_) (fun cdv A outer s H vs Q E hr h => ?_)
  · obtain ⟨p, a, y, rfl, _⟩ := h
    rfl
  · obtain ⟨p, a, y, rfl, h0, hp, ha, k⟩ := h
    have hr1 : Room 1 _ := hr.mono (by decide)
    have hr2 : Room 2 _ := hr.mono (by decide)
    refine ⟨_, pss_cons (ps_if (pw_or (pt_cmpR op_lt (pv 2) pe_int (nomark _)) (pw_or1 (pt_cmpR op_gt (pv 2) (pe_cal CH hr1 (by rfl) (pa_cons (pv 0) pa_nil)) (nomark _)))).pt (pss_one (ps_ret (pe_lst (pa_cons (pe_gi (by rfl) hX) pa_nil)))) pss_nil)
      (pss_cons (ps_set (i := 3) sc_fold.nd rfl (Or.inl rfl) (pe_cal CX hr1 (by rfl) (pa_cons (pv 0) (pa_cons (pv 1) (pa_cons (pv 2) pa_nil)))))
      (pss_one (ps_ret (pe_lst (pa_cons (pe_cal CF hr (by rfl) (pa_cons (pv 0) (pa_cons (pv 3) pa_nil))) (pa_cons (pe_cal CT hr2 (by rfl) (pa_cons (pv 0) (pa_cons (pv 3) pa_nil))) pa_nil)))))), ?_⟩
    refine ⟨_, rfl, _, _, rfl, rfl, _, rfl, ?_⟩
    refine ite2 (fun h1 => ?_) (fun h1 => ?_)
    · rw [if_pos (.inl (by have := decT h1; omega))] at k
      exact iteT ⟨by show 1 ≤ sizeLine; decide, fun r hr => retL_new k (Same.refl _) hr rfl⟩
    refine ⟨_, rfl, _, rfl, p, rfl, _, _, rfl, rfl, _, rfl, ?_⟩
    refine ite2 (fun h2 => ?_) (fun h2 => ?_)
    · rw [if_pos (.inr (by have := decT h2; omega))] at k
      exact ⟨by show 1 ≤ sizeLine; decide, fun r hr => retL_new k (Same.refl _) hr rfl⟩
    have g1 : ¬ (y = 0 ∨ p / 2 < y) := by
      have := decF h1
      have := decF h2
      omega
    rw [if_neg g1] at k
    have hl : y * a % p < p := Nat.mod_lt _ h0
    refine ⟨_, rfl, _, rfl, _, rfl, p, a, y, rfl, h0, hp, ha, ?_⟩
    refine ⟨_, rfl, _, rfl, p, y * a % p, rfl, Nat.le_of_lt hl, _, rfl, _, rfl, p, y * a % p, rfl, by show 2 ≤ sizeLine; decide, fun r hr => retL_new k (Same.refl _) hr ?_⟩
    have e : (if p / 2 < y * a % p then (1 : Int) else 0) = if Kp299.turned p a y = true then 1 else 0 := by
      unfold Kp299.turned Kp299.place
      simp
    rw [e]
    rfl
def spFolds : Sp := fun vs H Q _ => ∃ p a : Nat, vs = [.int p, .int a] ∧ 0 < p ∧ p < 200 ∧ a < p ∧ RetL H Q [(Kp299.folds p a : Int)]
theorem sc_folds : FnScope ["p", "a", "left"] ["p", "a"] (defScope s_folds) := ⟨rfl, rfl, rfl, by decide +kernel, rfl, by decide +kernel, by decide +kernel⟩
theorem upTo_map_get {n i : Nat} {g : Nat → Nat} {z : Int} (h : (iN ((Kp299.upTo n).map g))[i]? = some z) : i < n ∧ z = (g (i + 1) : Int) := by
  have hi : i < n := by
    have := (List.getElem?_eq_some_iff.mp h).1
    rw [iN_len, List.length_map, upTo_length] at this
    exact this
  refine ⟨hi, ?_⟩
  unfold iN at h
  rw [List.getElem?_map, List.getElem?_map, upTo_get hi] at h
  exact (Option.some.inj h).symm
theorem ok_folds {f : Addr} {fd : FuncData} (F : Fun K "folds" "folds" s_folds f fd) (hS : mg "sum" = none) (CT : Cal P w K mg base 2 "is_turned" ["p", "left"] spTurned) (CH : Cal P w K mg base 1 "half" ["prime"] spHalf) (CM : Cal P w K mg base 2 "multiples_to" ["p", "a", "last"] spMulTo) : FnOk P w K mg base CX0 3 f fd ["p", "a"] spFolds := by
  refine F.ok sc_folds (fun vs H Q E h => ?_) (fun cdv A outer s H vs Q E hr h => ?_)
  · obtain ⟨p, a, rfl, _⟩ := h
    rfl
  · obtain ⟨p, a, rfl, h0, hp, ha, k⟩ := h
    have hr1 : Room 1 _ := hr.mono (by decide)
    refine ⟨_, pss_one (ps_ret (pe_lst (pa_cons (pe_callB (cr_sum rfl) (by rfl) hS PyProof.Rows.boot_sum (pa_cons (pe_lc rfl sc_folds.nd (pi_list (pe_cal CM hr (by rfl) (pa_cons (pv 0) (pa_cons (pv 1) (pa_cons (pe_cal CH hr1 (by rfl) (pa_cons (pv 0) pa_nil)) pa_nil))))) (blkOk_by (own := [("left", 2)]) (by show blkC ["p", "a", "left"] (defScope s_folds) _ _ = true; decide +kernel))
      (fun s H C cl fp => pg_name (i := 2) sc_folds.nd rfl (Or.inl rfl)) (fun s H C cl fp => pts_nil) (fun s H C cl fp => pe_cal CT hr (by rfl) (pa_cons (pv 0) (pa_cons (pv 2) pa_nil)))) pa_nil)) pa_nil))), ?_⟩
    refine ⟨_, rfl, _, rfl, _, rfl, p, rfl, p, a, p / 2, rfl, h0, hp, ha, by omega, fun H1 m s1 n1 e1 => ⟨m, rfl, ⟨_, SqL.of e1⟩, fun D hD => ?_⟩⟩
    refine lc_list (K := K) (a := m) (xs := vI (iN ((Kp299.upTo (p / 2)).map (Kp299.place p a)))) (fun i H' => H' D = some (.lst (vI ((Kp299.upTo i).map fun z => if Kp299.turned p a z = true then (1 : Int) else 0))) ∧ Same H1 H') ⟨upd_same, same_new (Same.refl _) hD⟩
      (fun i H' _ h => SqL.of (h.2 _ _ e1)) ?_ ?_
    · rintro i x H' hx ⟨h1, h2⟩
      obtain ⟨z, hz, rfl⟩ := vI_get hx
      obtain ⟨hi, rfl⟩ := upTo_map_get hz
      refine ⟨rfl, ?_⟩
      refine ⟨_, rfl, _, rfl, p, Kp299.place p a (i + 1), rfl, _, h1, ?_, ?_, same_new h2 hD⟩
      · rw [vI_len, List.length_map, upTo_length]
        exact sz (m := 200) (by omega)
      · have e : (if p / 2 < Kp299.place p a (i + 1) then (1 : Int) else 0) = if Kp299.turned p a (i + 1) = true then 1 else 0 := by
          unfold Kp299.turned
          simp
        rw [upd_same, upTo_succ, List.map_append, List.map_cons, List.map_nil, vI_snoc, e]
    · rintro H' ⟨h1, h2⟩
      rw [vI_len, iN_len, List.length_map, upTo_length] at h1
      refine ⟨D, _, rfl, SqL.of h1, by show 1 ≤ sizeLine; decide, fun r hr => retL_new k (s1.trans h2) hr ?_⟩
      rw [count_int]
      rfl
def spFoldAll : Sp := fun vs H Q _ => ∃ p a : Nat, vs = [.int p, .int a] ∧ 0 < p ∧ p < 200 ∧ a < p ∧ RetL H Q (((p / 2 : Nat) : Int) :: iN ((Kp299.upTo (p / 2)).map (Kp299.folded p a)))
theorem sc_foldall : FnScope ["p", "a", "left"] ["p", "a"] (defScope s_folded_all) := ⟨rfl, rfl, rfl, by decide +kernel, rfl, by decide +kernel, by decide +kernel⟩
theorem ok_foldall {f : Addr} {fd : FuncData} (F : Fun K "folded_all" "folded_all" s_folded_all f fd) (CH : Cal P w K mg base 1 "half" ["prime"] spHalf) (CF : Cal P w K mg base 3 "folded" ["p", "left"] spFolded) (CM : Cal P w K mg base 2 "multiples_to" ["p", "a", "last"] spMulTo) :
    FnOk P w K mg base CX0 4 f fd ["p", "a"] spFoldAll := by
  refine F.ok sc_foldall (fun vs H Q E h => ?_) (fun cdv A outer s H vs Q E hr h => ?_)
  · obtain ⟨p, a, rfl, _⟩ := h
    rfl
  · obtain ⟨p, a, rfl, h0, hp, ha, k⟩ := h
    have hr1 : Room 1 _ := hr.mono (by decide)
    have hr2 : Room 2 _ := hr.mono (by decide)
    refine ⟨_, pss_one (ps_ret (pe_op op_cat (pe_lst (pa_cons (pe_cal CH hr1 (by rfl) (pa_cons (pv 0) pa_nil)) pa_nil)) (pe_lc rfl sc_foldall.nd (pi_list (pe_cal CM hr2 (by rfl) (pa_cons (pv 0) (pa_cons (pv 1) (pa_cons (pe_cal CH hr1 (by rfl) (pa_cons (pv 0) pa_nil)) pa_nil))))) (blkOk_by (own := [("left", 2)]) (by show blkC ["p", "a", "left"] (defScope s_folded_all) _ _ = true; decide +kernel))
      (fun s H C cl fp => pg_name (i := 2) sc_foldall.nd rfl (Or.inl rfl)) (fun s H C cl fp => pts_nil) (fun s H C cl fp => pe_cal CF hr (by rfl) (pa_cons (pv 0) (pa_cons (pv 2) pa_nil)))))), ?_⟩
    refine ⟨_, rfl, p, rfl, by show 1 ≤ sizeLine; decide, fun l hl => ?_⟩
    have s0 : Same H (upd H l (.lst [V.int ((p / 2 : Nat) : Int)])) := same_new (Same.refl _) hl
    refine ⟨_, rfl, _, rfl, _, rfl, p, rfl, p, a, p / 2, rfl, h0, hp, ha, by omega, fun H1 m s1 n1 e1 => ⟨m, rfl, ⟨_, SqL.of e1⟩, fun D hD => ?_⟩⟩
    refine lc_list (K := K) (a := m) (xs := vI (iN ((Kp299.upTo (p / 2)).map (Kp299.place p a)))) (fun i H' => H' D = some (.lst (vI (iN ((Kp299.upTo i).map (Kp299.folded p a))))) ∧ Same H1 H') ⟨upd_same, same_new (Same.refl _) hD⟩
      (fun i H' _ h => SqL.of (h.2 _ _ e1)) ?_ ?_
    · rintro i x H' hx ⟨h1, h2⟩
      obtain ⟨z, hz, rfl⟩ := vI_get hx
      obtain ⟨hi, rfl⟩ := upTo_map_get hz
      refine ⟨rfl, ?_⟩
      refine ⟨_, rfl, _, rfl, p, Kp299.place p a (i + 1), rfl, Nat.le_of_lt (place_lt h0), _, h1, ?_, ?_, same_new h2 hD⟩
      · rw [vI_len, iN_len, List.length_map, upTo_length]
        exact sz (m := 200) (by omega)
      · rw [upd_same, upTo_succ, List.map_append, List.map_cons, List.map_nil, iN_snoc, vI_snoc]
        rfl
    · rintro H' ⟨h1, h2⟩
      rw [vI_len, iN_len, List.length_map, upTo_length] at h1
      have el := h2 _ _ (s1 _ _ (upd_same (H := H) (a := l) (o := .lst [V.int ((p / 2 : Nat) : Int)])))
      refine ⟨l, D, _, _, rfl, rfl, el, h1, ?_, fun r hr => retL_new k ((s0.trans s1).trans h2) hr rfl⟩
      rw [vI_len, iN_len, List.length_map, upTo_length]
      exact Nat.le_of_lt (sz (m := 400) (by show 1 + p / 2 ≤ 400; omega))
/-! ### fold_answer -/
/-- what is due of a call that changes nothing -/
def spDue (cs : List Int) (wq : Bool) : Sp := fun vs H Q _ => ∃ (p q : Nat) (c : Int) (g : Addr) (gs : List Int), vs = (if wq then [.int p, .int q, .int c, .ref g] else [.int p, .int c, .ref g]) ∧ Kp299.okP p = true ∧ Kp299.okP q = true ∧
  H g = some (.lst (vI gs)) ∧ LC c gs ∧ c ∈ cs ∧ RetL H Q (Kp299Neutral.step (some ⟨p, q⟩) [c :: gs]).2
theorem sc_fans : FnScope ["p", "number", "given", "a"] ["p", "number", "given"] (defScope s_fold_answer) := ⟨rfl, rfl, rfl, by decide +kernel, rfl, by decide +kernel, by decide +kernel⟩
theorem ok_fans {f : Addr} {fd : FuncData} (F : Fun K "fold_answer" "fold_answer" s_fold_answer f fd) (hX : IntG mg "REFUSED" (-22)) (hF : IntG mg "FOLD" 3) (hS : IntG mg "FOLDS" 4)
    (C1 : Cal P w K mg base 4 "fold" ["p", "a", "k"] spFold) (C2 : Cal P w K mg base 3 "folds" ["p", "a"] spFolds) (C3 : Cal P w K mg base 4 "folded_all" ["p", "a"] spFoldAll) :
    FnOk P w K mg base CX0 5 f fd ["p", "number", "given"] (spDue [3, 4, 5] false) := by
  refine F.ok sc_fans (fun vs H Q E h => ?_) (fun cdv A outer s H vs Q E hr h => ?_)
  · obtain ⟨p, q, c, g, gs, rfl, _⟩ := h
    rfl
  · obtain ⟨p, q, c, g, gs, rfl, okp, okq, hg, lc, hc, k⟩ := h
    have hp := okP_lt okp
    have h3 := okP_ge okp
    have h0 : 0 < p := by omega
    have hr3 : Room 3 _ := hr.mono (by decide)
    refine ⟨_, pss_cons (ps_set (i := 3) sc_fans.nd rfl (Or.inl rfl) (pe_op op_mod (pe_ix ix_list (pv 2) pe_int (fun _ _ => rfl)) (pv 0)))
      (pss_cons (ps_if (pt_cmpR op_eq (pv 3) pe_int (nomark _)) (pss_one (ps_ret (pe_lst (pa_cons (pe_gi (by rfl) hX) pa_nil)))) pss_nil)
      (pss_cons (ps_if (pt_cmpR op_eq (pv 1) (pe_gi (by rfl) hF) (nomark _)) (pss_one (ps_ret (pe_cal C1 hr (by rfl) (pa_cons (pv 0) (pa_cons (pv 3) (pa_cons (pe_ix ix_list (pv 2) pe_int (fun _ _ => rfl)) pa_nil)))))) pss_nil)
      (pss_cons (ps_if (pt_cmpR op_eq (pv 1) (pe_gi (by rfl) hS) (nomark _)) (pss_one (ps_ret (pe_cal C2 hr3 (by rfl) (pa_cons (pv 0) (pa_cons (pv 3) pa_nil))))) pss_nil)
      (pss_one (ps_ret (pe_cal C3 hr (by rfl) (pa_cons (pv 0) (pa_cons (pv 3) pa_nil)))))))), ?_⟩
    cases lc with
    | c3 x y hx hy =>
      rw [st_3] at k
      refine ⟨_, rfl, g, _, _, _, rfl, rfl, SqL.of hg, rfl, _, rfl, _, _, rfl, rfl, (by show (0 : Int) < (p : Int); omega), ?_⟩
      refine ⟨_, rfl, rfl, _, rfl, ?_⟩
      refine ite2 (fun h1 => ?_) (fun h1 => ?_)
      · have e : x % p = 0 := by have := vEq h1; exact_mod_cast this
        rw [if_pos (.inl e)] at k
        exact ⟨by show 1 ≤ sizeLine; decide, fun r hr => retL_new k (Same.refl _) hr rfl⟩
      · have e : ¬ x % p = 0 := fun z => vNe h1 (by exact_mod_cast z)
        refine ⟨_, rfl, rfl, _, rfl, eqT rfl ?_⟩
        refine ⟨_, rfl, _, rfl, _, rfl, g, _, _, _, rfl, rfl, SqL.of hg, rfl, p, x % p, y, rfl, h0, hp, Nat.mod_lt _ h0, ?_⟩
        rw [folded_mod, turned_mod]
        have e2 : (x % p = 0 ∨ y = 0 ∨ p / 2 < y) = (y = 0 ∨ p / 2 < y) := by simp [e]
        simp only [e2] at k
        exact k
    | c4 x hx =>
      rw [st_4] at k
      refine ⟨_, rfl, g, _, _, _, rfl, rfl, SqL.of hg, rfl, _, rfl, _, _, rfl, rfl, (by show (0 : Int) < (p : Int); omega), ?_⟩
      refine ⟨_, rfl, rfl, _, rfl, ?_⟩
      refine ite2 (fun h1 => ?_) (fun h1 => ?_)
      · have e : x % p = 0 := by have := vEq h1; exact_mod_cast this
        rw [if_pos e] at k
        exact ⟨by show 1 ≤ sizeLine; decide, fun r hr => retL_new k (Same.refl _) hr rfl⟩
      · have e : ¬ x % p = 0 := fun z => vNe h1 (by exact_mod_cast z)
        rw [if_neg e, ← folds_mod] at k
        refine ⟨_, rfl, rfl, _, rfl, eqF (by decide) ?_⟩
        refine ⟨_, rfl, rfl, _, rfl, eqT rfl ?_⟩
        exact ⟨_, rfl, _, rfl, p, x % p, rfl, h0, hp, Nat.mod_lt _ h0, k⟩
    | c5 x hx =>
      rw [st_5] at k
      refine ⟨_, rfl, g, _, _, _, rfl, rfl, SqL.of hg, rfl, _, rfl, _, _, rfl, rfl, (by show (0 : Int) < (p : Int); omega), ?_⟩
      refine ⟨_, rfl, rfl, _, rfl, ?_⟩
      refine ite2 (fun h1 => ?_) (fun h1 => ?_)
      · have e : x % p = 0 := by have := vEq h1; exact_mod_cast this
        rw [if_pos e] at k
        exact ⟨by show 1 ≤ sizeLine; decide, fun r hr => retL_new k (Same.refl _) hr rfl⟩
      · have e : ¬ x % p = 0 := fun z => vNe h1 (by exact_mod_cast z)
        rw [if_neg e] at k
        have e2 : Kp299.folded p (x % p) = Kp299.folded p x := by funext z; exact folded_mod p x z
        refine ⟨_, rfl, rfl, _, rfl, eqF (by decide) ?_⟩
        refine ⟨_, rfl, rfl, _, rfl, eqF (by decide) ?_⟩
        refine ⟨_, rfl, _, rfl, p, x % p, rfl, h0, hp, Nat.mod_lt _ h0, ?_⟩
        rw [e2]
        exact k
    | _ => simp at hc
end
end Bp

namespace Bp
open PySem PySem.Spec PyProof.Rows L2
section
variable {P : Program} {w : World} {K : PySem.W.Frag} {mg : Str → Option Value} {base : Heap}
/-! ### under_at, column, under, inside -/
def spUnderAt : Sp := fun vs H Q _ => ∃ p q x : Nat, vs = [.int p, .int q, .int x] ∧ 0 < p ∧ p < 200 ∧ q < 200 ∧ Q (.int (Kp299.column p q x : Int)) H
theorem sc_underat : FnScope ["p", "q", "x"] ["p", "q", "x"] (defScope s_under_at) := ⟨rfl, rfl, rfl, by decide +kernel, rfl, by decide +kernel, by decide +kernel⟩
theorem ok_underat {f : Addr} {fd : FuncData} (F : Fun K "under_at" "under_at" s_under_at f fd) : FnOk P w K mg base CX0 1 f fd ["p", "q", "x"] spUnderAt := by
  refine F.ok sc_underat (fun vs H Q E h => ?_) (fun cdv A outer s H vs Q E hr h => ?_)
  · obtain ⟨p, q, x, rfl, _⟩ := h
    rfl
  · obtain ⟨p, q, x, rfl, h0, hp, hq, k⟩ := h
    refine ⟨_, pss_one (ps_ret (pe_op op_fdiv (pe_op op_mul (pv 2) (pv 1)) (pv 0))), ?_⟩
    exact ⟨_, rfl, _, rfl, _, _, rfl, rfl, .inr ⟨by omega, by omega⟩, _, rfl, _, _, rfl, rfl, ⟨by omega, by omega⟩, k⟩
def spColumn : Sp := fun vs H Q _ => ∃ p q x : Nat, vs = [.int p, .int q, .int x] ∧ 0 < p ∧ p < 200 ∧ q < 200 ∧ RetL H Q (if x = 0 ∨ p / 2 < x then [-22] else [(Kp299.column p q x : Int)])
theorem sc_column : FnScope ["p", "q", "k"] ["p", "q", "k"] (defScope s_column) := ⟨rfl, rfl, rfl, by decide +kernel, rfl, by decide +kernel, by decide +kernel⟩
theorem ok_column {f : Addr} {fd : FuncData} (F : Fun K "column" "column" s_column f fd) (hX : IntG mg "REFUSED" (-22)) (CH : Cal P w K mg base 1 "half" ["prime"] spHalf) (CU : Cal P w K mg base 1 "under_at" ["p", "q", "x"] spUnderAt) :
    FnOk P w K mg base CX0 2 f fd ["p", "q", "k"] spColumn := by
  refine F.ok sc_column (fun vs H Q E h => ?_) (fun cdv A outer s H vs Q E hr h => ?_)
  · obtain ⟨p, q, x, rfl, _⟩ := h
    rfl
  · obtain ⟨p, q, x, rfl, h0, hp, hq, k⟩ := h
    refine ⟨_, pss_cons (ps_if (pw_or (pt_cmpR op_lt (pv 2) pe_int (nomark _)) (pw_or1 (pt_cmpR op_gt (pv 2) (pe_cal CH hr (by rfl) (pa_cons (pv 0) pa_nil)) (nomark _)))).pt (pss_one (ps_ret (pe_lst (pa_cons (pe_gi (by rfl) hX) pa_nil)))) pss_nil)
      (pss_one (ps_ret (pe_lst (pa_cons (pe_cal CU hr (by rfl) (pa_cons (pv 0) (pa_cons (pv 1) (pa_cons (pv 2) pa_nil)))) pa_nil)))), ?_⟩
    refine ⟨_, rfl, _, _, rfl, rfl, _, rfl, ?_⟩
    refine ite2 (fun h1 => ?_) (fun h1 => ?_)
    · rw [if_pos (.inl (by have := decT h1; omega))] at k
      exact iteT ⟨by show 1 ≤ sizeLine; decide, fun r hr => retL_new k (Same.refl _) hr rfl⟩
    refine ⟨_, rfl, _, rfl, p, rfl, _, _, rfl, rfl, _, rfl, ?_⟩
    refine ite2 (fun h2 => ?_) (fun h2 => ?_)
    · rw [if_pos (.inr (by have := decT h2; omega))] at k
      exact ⟨by show 1 ≤ sizeLine; decide, fun r hr => retL_new k (Same.refl _) hr rfl⟩
    have g1 : ¬ (x = 0 ∨ p / 2 < x) := by
      have := decF h1
      have := decF h2
      omega
    rw [if_neg g1] at k
    exact ⟨_, rfl, _, rfl, _, rfl, p, q, x, rfl, h0, hp, hq, by show 1 ≤ sizeLine; decide, fun r hr => retL_new k (Same.refl _) hr rfl⟩
def spUnder : Sp := fun vs H Q _ => ∃ p q : Nat, vs = [.int p, .int q] ∧ 0 < p ∧ p < 200 ∧ q < 200 ∧ RetL H Q [(Kp299.under p q : Int)]
theorem sc_under : FnScope ["p", "q", "x"] ["p", "q"] (defScope s_under) := ⟨rfl, rfl, rfl, by decide +kernel, rfl, by decide +kernel, by decide +kernel⟩
theorem ok_under {f : Addr} {fd : FuncData} (F : Fun K "under" "under" s_under f fd) (hR : mg "range" = none) (hS : mg "sum" = none) (CH : Cal P w K mg base 1 "half" ["prime"] spHalf) (CU : Cal P w K mg base 1 "under_at" ["p", "q", "x"] spUnderAt) :
    FnOk P w K mg base CX0 2 f fd ["p", "q"] spUnder := by
  refine F.ok sc_under (fun vs H Q E h => ?_) (fun cdv A outer s H vs Q E hr h => ?_)
  · obtain ⟨p, q, rfl, _⟩ := h
    rfl
  · obtain ⟨p, q, rfl, h0, hp, hq, k⟩ := h
    refine ⟨_, pss_one (ps_ret (pe_lst (pa_cons (pe_callB (cr_sum rfl) (by rfl) hS PyProof.Rows.boot_sum (pa_cons (pe_lc rfl sc_under.nd (pi_range2 (by rfl) hR (pa_cons pe_int (pa_cons (pe_op op_add (pe_cal CH hr (by rfl) (pa_cons (pv 0) pa_nil)) pe_int) pa_nil))) (blkOk_by (own := [("x", 2)]) (by show blkC ["p", "q", "x"] (defScope s_under) _ _ = true; decide +kernel))
      (fun s H C cl fp => pg_name (i := 2) sc_under.nd rfl (Or.inl rfl)) (fun s H C cl fp => pts_nil) (fun s H C cl fp => pe_cal CU hr (by rfl) (pa_cons (pv 0) (pa_cons (pv 1) (pa_cons (pv 2) pa_nil))))) pa_nil)) pa_nil))), ?_⟩
    refine ⟨_, rfl, p, rfl, _, _, rfl, rfl, _, _, rfl, ⟨by decide, by decide, by omega, by omega⟩, fun D hD => ?_⟩
    refine lc_range (fun i H' => i ≤ p / 2 ∧ H' D = some (.lst (vI (iN ((Kp299.upTo i).map (Kp299.column p q))))) ∧ Same H H') ⟨Nat.zero_le _, upd_same, same_new (Same.refl _) hD⟩ ?_ ?_
    · rintro i H' hi ⟨_, h1, h2⟩
      have e : (1 : Int) + (i : Int) = ((i + 1 : Nat) : Int) := by omega
      refine ⟨rfl, ?_⟩
      refine ⟨_, rfl, _, rfl, _, rfl, p, q, i + 1, by rw [e]; rfl, h0, hp, hq, _, h1, ?_, by omega, ?_, same_new h2 hD⟩
      · rw [vI_len, iN_len, List.length_map, upTo_length]
        exact sz (m := 200) (by omega)
      · rw [upd_same, upTo_succ, List.map_append, List.map_cons, List.map_nil, iN_snoc, vI_snoc]
    · rintro H' ⟨h0', h1, h2⟩
      have e : ((((p / 2 : Nat) : Int) + 1) - 1).toNat = p / 2 := by omega
      rw [e] at h1
      refine ⟨D, _, rfl, SqL.of h1, by show 1 ≤ sizeLine; decide, fun r hr => retL_new k h2 hr ?_⟩
      unfold iN
      rw [sum_int]
      rfl
def spInside : Sp := fun vs H Q _ => ∃ p q x y : Nat, vs = [.int p, .int q, .int x, .int y] ∧ p < 200 ∧ q < 200 ∧ RetL H Q (if x = 0 ∨ p / 2 < x ∨ y = 0 ∨ q / 2 < y then [-22] else [if y * p < x * q then 1 else 2])
theorem sc_inside : FnScope ["p", "q", "x", "y"] ["p", "q", "x", "y"] (defScope s_inside) := ⟨rfl, rfl, rfl, by decide +kernel, rfl, by decide +kernel, by decide +kernel⟩
theorem ok_inside {f : Addr} {fd : FuncData} (F : Fun K "inside" "inside" s_inside f fd) (hX : IntG mg "REFUSED" (-22)) (CH : Cal P w K mg base 1 "half" ["prime"] spHalf) : FnOk P w K mg base CX0 2 f fd ["p", "q", "x", "y"] spInside := by
  refine F.ok sc_inside (fun vs H Q E h => ?_) (fun cdv A outer s H vs Q E hr h => ?_)
  · obtain ⟨p, q, x, y, rfl, _⟩ := h
    rfl
  · obtain ⟨p, q, x, y, rfl, hp, hq, k⟩ := h
    refine ⟨_, pss_cons (ps_if (pw_or (pt_cmpR op_lt (pv 2) pe_int (nomark _)) (pw_or (pt_cmpR op_gt (pv 2) (pe_cal CH hr (by rfl) (pa_cons (pv 0) pa_nil)) (nomark _)) (pw_or (pt_cmpR op_lt (pv 3) pe_int (nomark _)) (pw_or1 (pt_cmpR op_gt (pv 3) (pe_cal CH hr (by rfl) (pa_cons (pv 1) pa_nil)) (nomark _)))))).pt
        (pss_one (ps_ret (pe_lst (pa_cons (pe_gi (by rfl) hX) pa_nil)))) pss_nil)
      (pss_one (ps_ret (pe_lst (pa_cons (pe_ifExp (pt_cmpR op_lt (pe_op op_mul (pv 3) (pv 0)) (pe_op op_mul (pv 2) (pv 1)) (nomark _)) pe_int pe_int) pa_nil)))), ?_⟩
    refine ⟨_, rfl, _, _, rfl, rfl, _, rfl, ?_⟩
    refine ite2 (fun h1 => ?_) (fun h1 => ?_)
    · rw [if_pos (.inl (by have := decT h1; omega))] at k
      exact iteT ⟨by show 1 ≤ sizeLine; decide, fun r hr => retL_new k (Same.refl _) hr rfl⟩
    refine ⟨_, rfl, _, rfl, p, rfl, _, _, rfl, rfl, _, rfl, ?_⟩
    refine ite2 (fun h2 => ?_) (fun h2 => ?_)
    · rw [if_pos (.inr (.inl (by have := decT h2; omega)))] at k
      exact iteT ⟨by show 1 ≤ sizeLine; decide, fun r hr => retL_new k (Same.refl _) hr rfl⟩
    refine ⟨_, rfl, _, _, rfl, rfl, _, rfl, ?_⟩
    refine ite2 (fun h3 => ?_) (fun h3 => ?_)
    · rw [if_pos (.inr (.inr (.inl (by have := decT h3; omega))))] at k
      exact iteT ⟨by show 1 ≤ sizeLine; decide, fun r hr => retL_new k (Same.refl _) hr rfl⟩
    refine ⟨_, rfl, _, rfl, q, rfl, _, _, rfl, rfl, _, rfl, ?_⟩
    refine ite2 (fun h4 => ?_) (fun h4 => ?_)
    · rw [if_pos (.inr (.inr (.inr (by have := decT h4; omega))))] at k
      exact ⟨by show 1 ≤ sizeLine; decide, fun r hr => retL_new k (Same.refl _) hr rfl⟩
    have g1 : ¬ (x = 0 ∨ p / 2 < x ∨ y = 0 ∨ q / 2 < y) := by
      have := decF h1
      have := decF h2
      have := decF h3
      have := decF h4
      omega
    rw [if_neg g1] at k
    refine ⟨_, rfl, _, rfl, _, _, rfl, rfl, .inr ⟨by omega, by omega⟩, _, rfl, _, rfl, _, _, rfl, rfl, .inr ⟨by omega, by omega⟩, _, _, rfl, rfl, _, rfl, ?_⟩
    refine ite2 (fun h5 => ?_) (fun h5 => ?_)
    · have l : y * p < x * q := by have := decT h5; exact_mod_cast this
      rw [if_pos l] at k
      exact ⟨by show 1 ≤ sizeLine; decide, fun r hr => retL_new k (Same.refl _) hr rfl⟩
    · have l : ¬ y * p < x * q := fun z => decF h5 (by exact_mod_cast z)
      rw [if_neg l] at k
      exact ⟨by show 1 ≤ sizeLine; decide, fun r hr => retL_new k (Same.refl _) hr rfl⟩
/-! ### point_answer -/
theorem sc_pans : FnScope ["p", "q", "number", "given"] ["p", "q", "number", "given"] (defScope s_point_answer) := ⟨rfl, rfl, rfl, by decide +kernel, rfl, by decide +kernel, by decide +kernel⟩
theorem ok_pans {f : Addr} {fd : FuncData} (F : Fun K "point_answer" "point_answer" s_point_answer f fd) (hC : IntG mg "COLUMN" 6) (hR : IntG mg "ROW" 7) (hU : IntG mg "UNDER" 8) (hO : IntG mg "OVER" 9)
    (C1 : Cal P w K mg base 2 "column" ["p", "q", "k"] spColumn) (C2 : Cal P w K mg base 2 "under" ["p", "q"] spUnder) (C3 : Cal P w K mg base 2 "inside" ["p", "q", "x", "y"] spInside) :
    FnOk P w K mg base CX0 3 f fd ["p", "q", "number", "given"] (spDue [6, 7, 8, 9, 10] true) := by
  refine F.ok sc_pans (fun vs H Q E h => ?_) (fun cdv A outer s H vs Q E hr h => ?_)
  · obtain ⟨p, q, c, g, gs, rfl, _⟩ := h
    rfl
  · obtain ⟨p, q, c, g, gs, rfl, okp, okq, hg, lc, hc, k⟩ := h
    have hp := okP_lt okp
    have h3 := okP_ge okp
    have h0 : 0 < p := by omega
    have hq := okP_lt okq
    have q3 := okP_ge okq
    have q0 : 0 < q := by omega
    refine ⟨_, pss_cons (ps_if (pt_cmpR op_eq (pv 2) (pe_gi (by rfl) hC) (nomark _)) (pss_one (ps_ret (pe_cal C1 hr (by rfl) (pa_cons (pv 0) (pa_cons (pv 1) (pa_cons (pe_ix ix_list (pv 3) pe_int (fun _ _ => rfl)) pa_nil)))))) pss_nil)
      (pss_cons (ps_if (pt_cmpR op_eq (pv 2) (pe_gi (by rfl) hR) (nomark _)) (pss_one (ps_ret (pe_cal C1 hr (by rfl) (pa_cons (pv 1) (pa_cons (pv 0) (pa_cons (pe_ix ix_list (pv 3) pe_int (fun _ _ => rfl)) pa_nil)))))) pss_nil)
      (pss_cons (ps_if (pt_cmpR op_eq (pv 2) (pe_gi (by rfl) hU) (nomark _)) (pss_one (ps_ret (pe_cal C2 hr (by rfl) (pa_cons (pv 0) (pa_cons (pv 1) pa_nil))))) pss_nil)
      (pss_cons (ps_if (pt_cmpR op_eq (pv 2) (pe_gi (by rfl) hO) (nomark _)) (pss_one (ps_ret (pe_cal C2 hr (by rfl) (pa_cons (pv 1) (pa_cons (pv 0) pa_nil))))) pss_nil)
      (pss_one (ps_ret (pe_cal C3 hr (by rfl) (pa_cons (pv 0) (pa_cons (pv 1) (pa_cons (pe_ix ix_list (pv 3) pe_int (fun _ _ => rfl)) (pa_cons (pe_ix ix_list (pv 3) pe_int (fun _ _ => rfl)) pa_nil)))))))))), ?_⟩
    cases lc with
    | c6 x hx =>
      rw [st_6] at k
      refine ⟨_, rfl, rfl, _, rfl, eqT rfl ?_⟩
      exact ⟨_, rfl, _, rfl, _, rfl, g, _, _, _, rfl, rfl, SqL.of hg, rfl, p, q, x, rfl, h0, hp, hq, k⟩
    | c7 x hx =>
      rw [st_7] at k
      refine ⟨_, rfl, rfl, _, rfl, eqF (by decide) ?_⟩
      refine ⟨_, rfl, rfl, _, rfl, eqT rfl ?_⟩
      exact ⟨_, rfl, _, rfl, _, rfl, g, _, _, _, rfl, rfl, SqL.of hg, rfl, q, p, x, rfl, q0, hq, hp, k⟩
    | c8 =>
      rw [st_8] at k
      refine ⟨_, rfl, rfl, _, rfl, eqF (by decide) ?_⟩
      refine ⟨_, rfl, rfl, _, rfl, eqF (by decide) ?_⟩
      refine ⟨_, rfl, rfl, _, rfl, eqT rfl ?_⟩
      exact ⟨_, rfl, _, rfl, p, q, rfl, h0, hp, hq, k⟩
    | c9 =>
      rw [st_9] at k
      refine ⟨_, rfl, rfl, _, rfl, eqF (by decide) ?_⟩
      refine ⟨_, rfl, rfl, _, rfl, eqF (by decide) ?_⟩
      refine ⟨_, rfl, rfl, _, rfl, eqF (by decide) ?_⟩
      refine ⟨_, rfl, rfl, _, rfl, eqT rfl ?_⟩
      exact ⟨_, rfl, _, rfl, q, p, rfl, q0, hq, hp, k⟩
    | c10 x y hx hy =>
      rw [st_10] at k
      refine ⟨_, rfl, rfl, _, rfl, eqF (by decide) ?_⟩
      refine ⟨_, rfl, rfl, _, rfl, eqF (by decide) ?_⟩
      refine ⟨_, rfl, rfl, _, rfl, eqF (by decide) ?_⟩
      refine ⟨_, rfl, rfl, _, rfl, eqF (by decide) ?_⟩
      exact ⟨_, rfl, _, rfl, _, rfl, g, _, _, _, rfl, rfl, SqL.of hg, rfl, _, rfl, g, _, _, _, rfl, rfl, SqL.of hg, rfl, p, q, x, y, rfl, hp, hq, k⟩
    | _ => simp at hc
end
end Bp

namespace Bp
open PySem PySem.Spec PyProof.Rows L2
/-! ### the session -/
def sf (p q : Int) : List (Str × V) := [("p", .int p), ("q", .int q)]
def sfs : Kp299.State → List (Str × V)
  | none => sf 0 0
  | some t => sf t.p t.q
theorem sf_p (p q : Int) : (sf p q).lookup ("p" : Str) = some (.int p) := by
  unfold sf
  have e : (("p" : Str) == "p") = true := by decide +kernel
  rw [List.lookup_cons, e]
theorem sf_q (p q : Int) : (sf p q).lookup ("q" : Str) = some (.int q) := by
  unfold sf
  have e : (("q" : Str) == "p") = false := by decide +kernel
  have e' : (("q" : Str) == "q") = true := by decide +kernel
  rw [List.lookup_cons, e]
  show List.lookup _ _ = _
  rw [List.lookup_cons, e']
theorem sf_no (p q : Int) {m : Str} (h1 : (m == ("p" : Str)) = false) (h2 : (m == ("q" : Str)) = false) : (sf p q).lookup m = none := by
  unfold sf
  rw [List.lookup_cons, h1, List.lookup_cons, h2]
  rfl
theorem sf_putp (p q z : Int) : putF "p" (.int z) (sf p q) = sf z q := by
  show (if ("p" : Str) = "p" then [(("p" : Str), V.int z), ("q", V.int q)] else _) = _
  rw [if_pos rfl]
  rfl
theorem sf_putq (p q z : Int) : putF "q" (.int z) (sf p q) = sf p z := by
  show (if ("p" : Str) = "q" then _ else (("p" : Str), V.int p) :: (if ("q" : Str) = "q" then [(("q" : Str), V.int z)] else _)) = _
  rw [if_neg (by decide +kernel), if_pos rfl]
  rfl
theorem sf_new : putF "q" (.int 0) (putF "p" (.int 0) []) = sf 0 0 := by
  show (if ("p" : Str) = "q" then _ else (("p" : Str), V.int 0) :: [(("q" : Str), V.int 0)]) = _
  rw [if_neg (by decide +kernel)]
  rfl
/-- the session's object stands at a -/
def SessAt (C : Addr) (H : Hp) (a : Addr) (st : Kp299.State) : Prop := ∃ dx, H a = some (.ins C dx (sfs st))
/-- all but a stands as it was -/
def But (a : Addr) (H H' : Hp) : Prop := ∀ b o, H b = some o → b ≠ a → H' b = some o
/-- a new list is handed back, the session at a is in the state st -/
def RetS (C : Addr) (H : Hp) (Q : VK) (a : Addr) (st : Kp299.State) (l : List Int) : Prop := ∀ (H' : Hp) (r : Addr), SessAt C H' a st → But a H H' → H r = none → H' r = some (.lst (vI l)) → Q (.ref r) H'
theorem retS_new {C : Addr} {H H1 : Hp} {Q : VK} {a : Addr} {st : Kp299.State} {l : List Int} (k : RetS C H Q a st l) (s : SessAt C H1 a st) (b : But a H H1) (fr : ∀ p, H1 p = none → H p = none) {p : Addr} (hp : H1 p = none) {o : HO} (e : o = .lst (vI l)) :
    Q (.ref p) (upd H1 p o) := by
  subst e
  obtain ⟨dx, s⟩ := s
  have hn : H p = none := fr p hp
  refine k _ p ⟨dx, by rw [upd_ne (ne_of_none s hp)]; exact s⟩ (fun c o hc hca => ?_) hn upd_same
  rw [upd_ne (ne_of_none hc hn)]
  exact b c o hc hca
theorem RetS.retL {C : Addr} {H : Hp} {Q : VK} {a : Addr} {st : Kp299.State} {l : List Int} (k : RetS C H Q a st l) (s : SessAt C H a st) : RetL H Q l := fun H' r h1 h2 h3 => by
  obtain ⟨dx, s⟩ := s
  exact k H' r ⟨dx, h1 _ _ s⟩ (fun b o e _ => h1 b o e) h2 h3
theorem RetL.weak {H H1 : Hp} {Q : VK} {l : List Int} (k : RetL H Q l) (s : Same H H1) : RetL H1 Q l := fun H' r h1 h2 h3 => k H' r (s.trans h1) (s.free h2) h3
/-- the session was changed already, and a new list is still to come -/
theorem RetS.late {C : Addr} {H H1 : Hp} {Q : VK} {a : Addr} {st : Kp299.State} {l : List Int} (k : RetS C H Q a st l) (s : SessAt C H1 a st) (b : But a H H1) (fr : ∀ p, H1 p = none → H p = none) : RetL H1 Q l := fun H' r h1 h2 h3 => by
  obtain ⟨dx, s⟩ := s
  exact k H' r ⟨dx, h1 _ _ s⟩ (fun c o e hc => h1 c o (b c o e hc)) (fr r h2) h3
structure TxtS (K : PySem.W.Frag) (C : Addr) : Prop where
  cl : Cls K C
  nP : NoAttr K C "p"
  nQ : NoAttr K C "q"
section
variable {P : Program} {w : World} {K : PySem.W.Frag} {mg : Str → Option Value} {base : Heap} {C : Addr}
def spInit (C : Addr) : Sp := fun vs H Q _ => ∃ (p dx : Addr), vs = [.ref p] ∧ H p = some (.ins C dx []) ∧ ∀ H' : Hp, SessAt C H' p none → But p H H' → Q .non H'
theorem sc_init : FnScope ["self"] ["self"] (defScope s_Session_init) := ⟨rfl, rfl, rfl, by decide +kernel, rfl, by decide +kernel, by decide +kernel⟩
theorem ok_init {f : Addr} {fd : FuncData} (F : Fun K "__init__" "Session.__init__" s_Session_init f fd) (T : TxtS K C) : FnOk P w K mg base CX0 1 f fd ["self"] (spInit C) := by
  refine F.ok sc_init (fun vs H Q E h => ?_) (fun cdv A outer s H vs Q E hr h => ?_)
  · obtain ⟨p, dx, rfl, _⟩ := h
    rfl
  · obtain ⟨p, dx, rfl, hp, k⟩ := h
    refine ⟨_, pss_cons (ps_fld (pv 0) pe_int rfl) (pss_one (ps_fld (pv 0) pe_int rfl)), ?_⟩
    refine ⟨_, rfl, p, C, dx, [], rfl, hp, T.cl, T.nP, (by show 0 < 1000; decide), ?_⟩
    refine ⟨_, rfl, p, C, dx, _, rfl, upd_same, T.cl, T.nQ, (by show 1 < 1000; decide), ?_⟩
    exact k _ ⟨dx, Eq.trans upd_same (congrArg (fun z => some (HO.ins C dx z)) sf_new)⟩ fun b o e hb => by rw [upd_ne hb, upd_ne hb]; exact e
def spBegun (C : Addr) : Sp := fun vs H Q _ => ∃ (a : Addr) (st : Kp299.State), vs = [.ref a] ∧ SessAt C H a st ∧ Wf st ∧ Q (.bl st.isSome) H
theorem sc_begun : FnScope ["self"] ["self"] (defScope s_Session_begun) := ⟨rfl, rfl, rfl, by decide +kernel, rfl, by decide +kernel, by decide +kernel⟩
theorem ok_begun {f : Addr} {fd : FuncData} (F : Fun K "begun" "Session.begun" s_Session_begun f fd) (T : TxtS K C) : FnOk P w K mg base CX0 1 f fd ["self"] (spBegun C) := by
  refine F.ok sc_begun (fun vs H Q E h => ?_) (fun cdv A outer s H vs Q E hr h => ?_)
  · obtain ⟨a, st, rfl, _⟩ := h
    rfl
  · obtain ⟨a, st, rfl, ⟨dx, hs⟩, wf, k⟩ := h
    refine ⟨_, pss_one (ps_ret (pe_cmpR op_ne (pe_fld (pv 0) rfl) pe_int (nomark _))), ?_⟩
    cases st with
    | none => exact ⟨_, rfl, a, C, dx, _, _, rfl, hs, T.cl, T.nP, sf_p _ _, rfl, k⟩
    | some t =>
      refine ⟨_, rfl, a, C, dx, _, _, rfl, hs, T.cl, T.nP, sf_p _ _, rfl, ?_⟩
      have h3 := okP_ge (wf t rfl).1
      have e : decide (V.int (t.p : Int) = V.int 0) = false := decide_eq_false fun z => by
        have := V.int.inj z
        omega
      rw [e]
      exact k
def spBegin (C : Addr) : Sp := fun vs H Q _ => ∃ (a : Addr) (st : Kp299.State) (x y : Nat), vs = [.ref a, .int x, .int y] ∧ SessAt C H a st ∧ RetS C H Q a (Kp299Neutral.step st [[0, (x : Int), (y : Int)]]).1 (Kp299Neutral.step st [[0, (x : Int), (y : Int)]]).2
theorem sc_begin : FnScope ["self", "p", "q"] ["self", "p", "q"] (defScope s_Session_begin) := ⟨rfl, rfl, rfl, by decide +kernel, rfl, by decide +kernel, by decide +kernel⟩
theorem ok_begin {f : Addr} {fd : FuncData} (F : Fun K "begin" "Session.begin" s_Session_begin f fd) (T : TxtS K C) (hX : IntG mg "REFUSED" (-22)) (CP : Cal P w K mg base 1 "is_odd_prime" ["n"] spPrime) : FnOk P w K mg base CX0 2 f fd ["self", "p", "q"] (spBegin C) := by
  refine F.ok sc_begin (fun vs H Q E h => ?_) (fun cdv A outer s H vs Q E hr h => ?_)
  · obtain ⟨a, st, x, y, rfl, _⟩ := h
    rfl
  · obtain ⟨a, st, x, y, rfl, hs, k⟩ := h
    refine ⟨_, pss_cons (ps_if (pw_or (pt_cmpR op_eq (pv 1) (pv 2) (nomark _)) (pw_or (pt_not (pt_val (pe_cal CP hr (by rfl) (pa_cons (pv 1) pa_nil)))) (pw_or1 (pt_not (pt_val (pe_cal CP hr (by rfl) (pa_cons (pv 2) pa_nil))))))).pt (pss_one (ps_ret (pe_lst (pa_cons (pe_gi (by rfl) hX) pa_nil)))) pss_nil)
      (pss_cons (ps_fld (pv 0) (pv 1) rfl) (pss_cons (ps_fld (pv 0) (pv 2) rfl) (pss_one (ps_ret (pe_lst (pa_cons pe_int pa_nil)))))), ?_⟩
    have no : (Kp299.okP x = false ∨ Kp299.okP y = false ∨ x = y) → (1 : Nat) ≤ sizeLine ∧ ∀ r, H r = none → Q (.ref r) (upd H r (.lst [V.int (-22)])) := fun z => by
      rw [st_begin_no z] at k
      exact ⟨by decide, fun r hr => retS_new k hs (fun b o e _ => e) (fun _ z => z) hr rfl⟩
    refine ⟨_, rfl, _, rfl, rfl, _, rfl, ?_⟩
    refine ite2 (fun h1 => ?_) (fun h1 => ?_)
    · exact iteT (no (.inr (.inr (by have := vEq h1; omega))))
    refine ⟨_, rfl, x, rfl, _, rfl, ?_⟩
    cases ex : Kp299.okP x with
    | false => exact iteT (iteT (no (.inl ex)))
    | true =>
    refine iteF ?_
    refine ⟨_, rfl, y, rfl, _, rfl, ?_⟩
    cases ey : Kp299.okP y with
    | false => exact iteT (no (.inr (.inl ey)))
    | true =>
    refine iteF ?_
    have ne : x ≠ y := fun z => vNe h1 (by rw [z])
    rw [st_begin_yes ex ey ne] at k
    obtain ⟨dx, hs⟩ := hs
    obtain ⟨p0, q0, e0⟩ : ∃ p0 q0 : Int, sfs st = sf p0 q0 := by
      cases st with
      | none => exact ⟨0, 0, rfl⟩
      | some t => exact ⟨t.p, t.q, rfl⟩
    rw [e0] at hs
    refine ⟨_, rfl, _, rfl, a, C, dx, _, rfl, hs, T.cl, T.nP, (by show 2 < 1000; decide), ?_⟩
    refine ⟨_, rfl, _, rfl, a, C, dx, _, rfl, upd_same, T.cl, T.nQ, ?_, ?_⟩
    · rw [sf_putp]
      show 2 < 1000
      decide
    · refine ⟨by show 1 ≤ sizeLine; decide, fun r hr => ?_⟩
      refine retS_new k ⟨dx, ?_⟩ (fun b o e hb => by rw [upd_ne hb, upd_ne hb]; exact e) (fun r z => ?_) hr rfl
      · rw [upd_same, sf_putp, sf_putq]
        rfl
      · by_cases q : r = a
        · subst q
          rw [upd_same] at z
          cases z
        · rw [upd_ne q, upd_ne q] at z
          exact z
def spTold (C : Addr) : Sp := fun vs H Q _ => ∃ (a : Addr) (p q : Nat), vs = [.ref a] ∧ SessAt C H a (some ⟨p, q⟩) ∧ RetL H Q [(p : Int), (q : Int)]
theorem sc_told : FnScope ["self"] ["self"] (defScope s_Session_told) := ⟨rfl, rfl, rfl, by decide +kernel, rfl, by decide +kernel, by decide +kernel⟩
theorem ok_told {f : Addr} {fd : FuncData} (F : Fun K "told" "Session.told" s_Session_told f fd) (T : TxtS K C) : FnOk P w K mg base CX0 1 f fd ["self"] (spTold C) := by
  refine F.ok sc_told (fun vs H Q E h => ?_) (fun cdv A outer s H vs Q E hr h => ?_)
  · obtain ⟨a, p, q, rfl, _⟩ := h
    rfl
  · obtain ⟨a, p, q, rfl, ⟨dx, hs⟩, k⟩ := h
    have hs : H a = some (.ins C dx (sf p q)) := hs
    refine ⟨_, pss_one (ps_ret (pe_lst (pa_cons (pe_fld (pv 0) rfl) (pa_cons (pe_fld (pv 0) rfl) pa_nil)))), ?_⟩
    exact ⟨_, rfl, a, C, dx, _, _, rfl, hs, T.cl, T.nP, sf_p _ _, _, rfl, a, C, dx, _, _, rfl, hs, T.cl, T.nQ, sf_q _ _, by show 2 ≤ sizeLine; decide, fun r hr => retL_new k (Same.refl _) hr rfl⟩
def spExchange (C : Addr) : Sp := fun vs H Q _ => ∃ (a : Addr) (p q : Nat), vs = [.ref a] ∧ SessAt C H a (some ⟨p, q⟩) ∧ RetS C H Q a (some ⟨q, p⟩) [(q : Int), (p : Int)]
theorem sc_exchange : FnScope ["self", "former"] ["self"] (defScope s_Session_exchange) := ⟨rfl, rfl, rfl, by decide +kernel, rfl, by decide +kernel, by decide +kernel⟩
theorem ok_exchange {f : Addr} {fd : FuncData} (F : Fun K "exchange" "Session.exchange" s_Session_exchange f fd) (T : TxtS K C) (M5 : CalM P w K mg base 1 C "told" ["self"] (spTold C)) : FnOk P w K mg base CX0 2 f fd ["self"] (spExchange C) := by
  refine F.ok sc_exchange (fun vs H Q E h => ?_) (fun cdv A outer s H vs Q E hr h => ?_)
  · obtain ⟨a, p, q, rfl, _⟩ := h
    rfl
  · obtain ⟨a, p, q, rfl, ⟨dx, hs⟩, k⟩ := h
    have hs : H a = some (.ins C dx (sf p q)) := hs
    refine ⟨_, pss_cons (ps_set (i := 1) sc_exchange.nd rfl (Or.inl rfl) (pe_fld (pv 0) rfl)) (pss_cons (ps_fld (pv 0) (pe_fld (pv 0) rfl) rfl) (pss_cons (ps_fld (pv 0) (pv 1) rfl)
      (pss_one (ps_ret (pe_mcal0 M5 T.cl hr (pv 0)))))), ?_⟩
    refine ⟨_, rfl, a, C, dx, _, _, rfl, hs, T.cl, T.nP, sf_p _ _, ?_⟩
    refine ⟨_, rfl, a, C, dx, _, _, rfl, hs, T.cl, T.nQ, sf_q _ _, _, rfl, a, C, dx, _, rfl, hs, T.cl, T.nP, (by show 2 < 1000; decide), ?_⟩
    rw [sf_putp]
    refine ⟨_, rfl, _, rfl, a, C, dx, _, rfl, upd_same, T.cl, T.nQ, (by show 2 < 1000; decide), ?_⟩
    rw [sf_putq]
    refine ⟨_, rfl, a, dx, _, rfl, upd_same, sf_no _ _ (by decide +kernel) (by decide +kernel), a, q, p, rfl, ⟨dx, upd_same⟩, ?_⟩
    refine k.late ⟨dx, upd_same⟩ (fun b o e hb => by rw [upd_ne hb, upd_ne hb]; exact e) (fun r z => ?_)
    by_cases q : r = a
    · subst q
      rw [upd_same] at z
      cases z
    · rw [upd_ne q, upd_ne q] at z
      exact z
def spMove (C : Addr) : Sp := fun vs H Q _ => ∃ (a : Addr) (p q : Nat), vs = [.ref a] ∧ SessAt C H a (some ⟨p, q⟩) ∧ q < 200 ∧ RetS C H Q a (Kp299Neutral.step (some ⟨p, q⟩) [[2]]).1 (Kp299Neutral.step (some ⟨p, q⟩) [[2]]).2
theorem sc_move : FnScope ["self", "prime"] ["self"] (defScope s_Session_move_on) := ⟨rfl, rfl, rfl, by decide +kernel, rfl, by decide +kernel, by decide +kernel⟩
theorem ok_move {f : Addr} {fd : FuncData} (F : Fun K "move_on" "Session.move_on" s_Session_move_on f fd) (T : TxtS K C) (hX : IntG mg "NO_NEXT" (-33)) (CA : Cal P w K mg base 2 "prime_above" ["n", "barred"] spAbove) : FnOk P w K mg base CX0 3 f fd ["self"] (spMove C) := by
  refine F.ok sc_move (fun vs H Q E h => ?_) (fun cdv A outer s H vs Q E hr h => ?_)
  · obtain ⟨a, p, q, rfl, _⟩ := h
    rfl
  · obtain ⟨a, p, q, rfl, ⟨dx, hs⟩, hq, k⟩ := h
    have hs : H a = some (.ins C dx (sf p q)) := hs
    refine ⟨_, pss_cons (ps_set (i := 1) sc_move.nd rfl (Or.inl rfl) (pe_cal CA hr (by rfl) (pa_cons (pe_fld (pv 0) rfl) (pa_cons (pe_fld (pv 0) rfl) pa_nil))))
      (pss_cons (ps_if (pt_cmpR op_eq (pv 1) pe_int (nomark _)) (pss_one (ps_ret (pe_lst (pa_cons (pe_gi (by rfl) hX) pa_nil)))) pss_nil)
      (pss_cons (ps_fld (pv 0) (pv 1) rfl) (pss_one (ps_ret (pe_lst (pa_cons (pv 1) pa_nil)))))), ?_⟩
    refine ⟨_, rfl, a, C, dx, _, _, rfl, hs, T.cl, T.nQ, sf_q _ _, _, rfl, a, C, dx, _, _, rfl, hs, T.cl, T.nP, sf_p _ _, p, q, rfl, hq, ?_⟩
    refine ⟨_, rfl, rfl, _, rfl, ?_⟩
    cases e : Kp299.nextBut p q with
    | none =>
      rw [st_next_none e] at k
      refine eqT rfl ?_
      exact ⟨by show 1 ≤ sizeLine; decide, fun r hr => retS_new k ⟨dx, hs⟩ (fun b o e _ => e) (fun _ z => z) hr rfl⟩
    | some n =>
      rw [st_next_some e] at k
      have h3 := okP_ge (next_ok e).1
      refine eqF (by show ((n : Nat) : Int) ≠ 0; omega) ?_
      refine ⟨_, rfl, _, rfl, a, C, dx, _, rfl, hs, T.cl, T.nQ, (by show 2 < 1000; decide), ?_⟩
      rw [sf_putq]
      refine ⟨_, rfl, by show 1 ≤ sizeLine; decide, fun r hr => ?_⟩
      refine retS_new k ⟨dx, upd_same⟩ (fun b o e hb => by rw [upd_ne hb]; exact e) (fun r z => ?_) hr rfl
      by_cases q : r = a
      · subst q
        rw [upd_same] at z
        cases z
      · rw [upd_ne q] at z
        exact z
end
end Bp

namespace Bp
open PySem PySem.Spec PyProof.Rows L2
section
variable {P : Program} {w : World} {K : PySem.W.Frag} {mg : Str → Option Value} {base : Heap} {C : Addr}
/-! ### call_answer: what it promises -/
def spCall (C : Addr) : Sp := fun vs H Q _ => ∃ (a g : Addr) (st : Kp299.State) (c : Int) (gs : List Int), vs = [.ref a, .int c, .ref g] ∧ SessAt C H a st ∧ Wf st ∧ H g = some (.lst (vI gs)) ∧ LC c gs ∧
  RetS C H Q a (Kp299Neutral.step st [c :: gs]).1 (Kp299Neutral.step st [c :: gs]).2
/-! ### answers -/
/-- answers': a list of whole numbers is handed in, the specification's list comes out -/
def spAns (K : PySem.W.Frag) : Sp := fun vs H Q _ => ∃ (a : Addr) (ns : List Int), vs = [.ref a] ∧ SqL K H a (vI ns) ∧ ns.length ≤ 500 ∧ (∀ x ∈ ns, 0 ≤ x ∧ x ≤ 4294967295) ∧ PyKp299.answers_asked ns = true ∧
  ∀ (H' : Hp) (p : Addr), H' p = some (.lst (vI (PyKp299.answers ns))) → Q (.ref p) H'
theorem cut_eq {ns : List Int} {i n : Nat} (h : i + 1 + n ≤ ns.length) : cutV (vI ns) (some ((i : Int) + 1)) (some ((i : Int) + 1 + (n : Int))) = vI ((ns.drop (i + 1)).take n) := by
  have e1 : ((i : Int) + 1) = ((i + 1 : Nat) : Int) := by omega
  have e2 : ((i : Int) + 1 + (n : Int)) = ((i + 1 + n : Nat) : Int) := by omega
  unfold cutV
  rw [e2, e1, HT.sIx_nat, HT.sIx_nat, vI_len, Nat.min_eq_left h, Nat.min_eq_left (by omega)]
  unfold vI
  rw [← List.map_drop, ← List.map_take]
  congr 2
  omega
theorem But.trans {a : Addr} {H H1 H2 : Hp} (x : But a H H1) (y : But a H1 H2) : But a H H2 := fun b o e h => y b o (x b o e h) h
theorem sc_answers : FnScope ["calls", "session", "told", "at", "number", "end", "answer"] ["calls"] (defScope s_answers) := ⟨rfl, rfl, rfl, by decide +kernel, rfl, by decide +kernel, by decide +kernel⟩
theorem ok_answers {f fI ta : Addr} {fd fdI : FuncData} {k : Nat} (hk : 1 ≤ k) (F : Fun K "answers" "answers" s_answers f fd) (T : TxtS K C) (M : Mk K C fI) (FI : Fun K "__init__" "Session.__init__" s_Session_init fI fdI) (bI : Binds K fdI ["self"] []) (mC : mg "Session" = some (.ref C))
    (hL : mg "len" = none) (hA : mg "ARGUMENTS" = some (.ref ta)) (hT : ∀ H, SqT K H ta (vI ARG)) (CA : Cal P w K mg base k "call_answer" ["session", "number", "given"] (spCall C)) :
    FnOk P w K mg base CX0 (k + 2) f fd ["calls"] (spAns K) := by
  have GI : FnOk P w K mg base CX0 k fI fdI ["self"] (spInit C) := (ok_init FI T).mono hk
  refine F.ok sc_answers (fun vs H Q E h => ?_) (fun cdv A outer s H vs Q E hr h => ?_)
  · obtain ⟨a, ns, rfl, _⟩ := h
    rfl
  · obtain ⟨a, ns, rfl, hS, hlen, hnat, hask, ret⟩ := h
    have hrk : Room k _ := hr.mono (Nat.le_succ _)
    refine ⟨_, pss_cons (ps_set (i := 1) sc_answers.nd rfl (Or.inl rfl) (pe_make0 M GI hr (by rfl) mC bI .nil pass0))
      (pss_cons (ps_set (i := 2) sc_answers.nd rfl (Or.inl rfl) (pe_lst pa_nil))
      (pss_cons (ps_set (i := 3) sc_answers.nd rfl (Or.inl rfl) pe_int)
      (pss_cons (ps_while PassesOwn.never (pt_cmpR op_lt (pv 3) (pe_callB call_len_seq (by rfl) hL PySem.boot_len (pa_cons (pv 0) pa_nil)) (nomark _))
        (pss_cons (ps_set (i := 4) sc_answers.nd rfl (Or.inl rfl) (pe_ix ix_list (pv 0) (pv 3) (fun _ _ => rfl)))
        (pss_cons (ps_set (i := 5) sc_answers.nd rfl (Or.inl rfl) (pe_op op_add (pe_op op_add (pv 3) pe_int) (pe_ix ix_tup (pe_glob (v := .ref ta) (by rfl) hA rfl) (pv 4) (fun _ _ => rfl))))
        (pss_cons (ps_set (i := 6) sc_answers.nd rfl (Or.inl rfl) (pe_cal CA hrk (by rfl) (pa_cons (pv 1) (pa_cons (pv 4) (pa_cons (pe_slice sl_list (pv 0) (po_some (pe_op op_add (pv 3) pe_int)) (po_some (pv 5))) pa_nil)))))
        (pss_cons (ps_expr (pe_bm PySem.F.plainAttrs_list PySem.F.slot_list_append PySem.F.type_list_append mt_append (pv 2) (pa_cons (pe_callB call_len_seq (by rfl) hL PySem.boot_len (pa_cons (pv 6) pa_nil)) pa_nil)))
        (pss_cons (ps_expr (pe_bm PySem.F.plainAttrs_list PySem.F.slot_list_extend PySem.F.type_list_extend mt_extend (pv 2) (pa_cons (pv 6) pa_nil)))
        (pss_one (ps_set (i := 3) sc_answers.nd rfl (Or.inl rfl) (pv 5)))))))))
      (pss_one (ps_ret (pv 2)))))), ?_⟩
    -- session = Session()
    intro x dx nx ndx nex
    refine ⟨x, dx, rfl, upd_same, fun H1 sx1 k1 => ⟨rfl, ?_⟩⟩
    have s1 : Same H H1 := Same.made nx ndx k1
    -- told = []
    refine ⟨Nat.zero_le _, fun l hl => ?_⟩
    have hlH : H l = none := s1.free hl
    have hlx : l ≠ x := fun z => by
      obtain ⟨d, e⟩ := sx1
      rw [z, e] at hl
      cases hl
    -- the loop
    refine ⟨fun m σ H' => ∃ (i : Nat) (st : Kp299.State) (out : List Int) (v4 v5 v6 : Option V), m = ns.length - i ∧ i ≤ ns.length ∧ σ = [some (.ref a), some (.ref x), some (.ref l), some (.int (i : Int)), v4, v5, v6] ∧ Same H H' ∧ SessAt C H' x st ∧
        H' l = some (.lst (vI out)) ∧ Wf st ∧ Left ns i st out ∧ out.length ≤ 202 * i, ⟨ns.length, 0, none, [], none, none, none, by omega, by omega, rfl, same_new s1 hlH, ?_, upd_same, wf_none, left_start hask, Nat.le_refl _⟩, ?_⟩
    · obtain ⟨d, e⟩ := sx1
      exact ⟨d, by rw [upd_ne (Ne.symm hlx)]; exact e⟩
    rintro m σ H' ⟨i, st, out, v4, v5, v6, rfl, hi, rfl, s2, sx, hl2, wf, lf, ol⟩
    refine ⟨_, rfl, _, rfl, a, _, rfl, .inl (s2.seq hS), _, _, rfl, rfl, _, rfl, ?_⟩
    refine ite2 (fun h1 => ?_) (fun h1 => ?_)
    · have hi2 : i < ns.length := by
        have := decT h1
        rw [vI_len] at this
        omega
      obtain ⟨c, n, hc, hle, hgl, leg, lf2⟩ := left_turn hnat hi2 lf
      have lc := leg.lc
      obtain ⟨_, j, ej, hj, hARG, _⟩ := shape_of leg.shape
      have hcv : (vI ns)[i]? = some (V.int c) := by
        unfold vI
        rw [List.getElem?_map, hc]
        rfl
      have hjv : (vI ARG)[j]? = some (V.int (n : Int)) := by
        unfold vI
        rw [List.getElem?_map, hARG, hgl]
        rfl
      refine ⟨fun σ' H2 => ∃ (i' : Nat) (st' : Kp299.State) (out' : List Int) (u4 u5 u6 : Option V), i < i' ∧ i' ≤ ns.length ∧ σ' = [some (.ref a), some (.ref x), some (.ref l), some (.int (i' : Int)), u4, u5, u6] ∧ Same H H2 ∧ SessAt C H2 x st' ∧
        H2 l = some (.lst (vI out')) ∧ Wf st' ∧ Left ns i' st' out' ∧ out'.length ≤ 202 * i', fun σ' H2 ⟨i', st', out', u4, u5, u6, a1, a2, a3, a4, a5, a6, a7, a8, a9⟩ => ⟨ns.length - i', by omega, i', st', out', u4, u5, u6, rfl, a2, a3, a4, a5, a6, a7, a8, a9⟩, ?_⟩
      -- number = calls[at]
      refine ⟨_, rfl, _, rfl, a, _, _, _, rfl, rfl, s2.seq hS, atI_nat hcv, ?_⟩
      -- end = at + 1 + ARGUMENTS[number]
      refine ⟨_, rfl, _, _, rfl, rfl, _, rfl, ta, _, _, _, rfl, rfl, hT _, at_of ej hjv, _, _, rfl, rfl, ?_⟩
      -- answer = call_answer(session, number, calls[at + 1:end])
      refine ⟨_, rfl, _, rfl, _, rfl, _, rfl, _, _, rfl, rfl, _, rfl, _, rfl, _, rfl, a, _, rfl, s2.seq hS, fun g hg => ?_⟩
      rw [cut_eq hle]
      obtain ⟨d, sx⟩ := sx
      refine ⟨x, g, st, c, _, rfl, ⟨d, by rw [upd_ne (ne_of_none sx hg)]; exact sx⟩, wf, upd_same, lc, fun H2 r sx2 b2 nr er => ?_⟩
      have hlen2 := step_len lc wf
      have wf2 := step_wf lc wf
      generalize Kp299Neutral.step st (((c :: (ns.drop (i + 1)).take n)) :: []) = res at lf2 hlen2 wf2 sx2 er
      obtain ⟨d2, sx2⟩ := sx2
      have hlx2 : l ≠ x := ne_of hl2 sx (by intro z; cases z)
      have hl3 : H2 l = some (.lst (vI out)) := b2 l _ (by rw [upd_ne (ne_of_none hl2 hg)]; exact hl2) hlx2
      have s3 : Same H H2 := fun b o e => b2 b o (by rw [upd_ne (ne_of_none (s2 b o e) hg)]; exact s2 b o e) (ne_of_none e nx)
      have nr0 : H' r = none := by
        by_cases z : r = g
        · rw [z]; exact hg
        · rw [upd_ne z] at nr; exact nr
      have rl : l ≠ r := ne_of_none hl2 nr0
      have rx : x ≠ r := ne_of_none sx nr0
      -- told.append(len(answer))
      refine ⟨_, rfl, .inl ⟨rfl, _, SqL.of hl3⟩, _, rfl, r, _, rfl, .inl (SqL.of er), l, _, _, rfl, rfl, hl3, ?_, ?_⟩
      · rw [vI_len]
        exact sz (m := 202 * 500) (by omega)
      -- told.extend(answer)
      have er2 : upd H2 l (.lst (vI out ++ [V.int ((vI res.2).length : Int)])) r = some (.lst (vI res.2)) := by rw [upd_ne (Ne.symm rl)]; exact er
      refine ⟨_, rfl, .inl ⟨rfl, _, SqL.of upd_same⟩, _, rfl, l, r, _, _, rfl, rfl, upd_same, er2, ?_, ?_⟩
      · rw [List.length_append, vI_len, vI_len]
        show out.length + 1 + res.2.length ≤ sizeLine
        exact Nat.le_of_lt (sz (m := 202 * 501) (by omega))
      -- at = end
      refine ⟨_, rfl, i + 1 + n, res.1, out ++ ((res.2.length : Int) :: res.2), some (V.int c), some (V.int ((i : Int) + 1 + (n : Int))), some (V.ref r), by omega, hle, ?_, ?_, ⟨d2, ?_⟩, ?_, wf2, lf2, ?_⟩
      · have e2 : ((i : Int) + 1 + (n : Int)) = ((i + 1 + n : Nat) : Int) := by omega
        rw [← e2]
        rfl
      · exact fun b o e => by
          rw [upd_ne (ne_of_none e hlH), upd_ne (ne_of_none e hlH)]
          exact s3 b o e
      · rw [upd_ne (Ne.symm hlx), upd_ne (Ne.symm hlx)]
        exact sx2
      · rw [upd_same]
        congr 2
        rw [vI_len]
        unfold vI
        rw [List.map_append, List.map_cons, List.append_assoc]
        rfl
      · rw [List.length_append, List.length_cons]
        omega
    · have hi2 : ns.length ≤ i := by
        have := decF h1
        rw [vI_len] at this
        omega
      refine ⟨_, rfl, ?_⟩
      rw [left_end hi2 lf] at hl2
      exact ret H' l hl2
end
end Bp

namespace Bp
open PySem PySem.Spec PyProof.Rows L2
section
variable {P : Program} {w : World} {K : PySem.W.Frag} {mg : Str → Option Value} {base : Heap}
/-! ### cards -/
def spDealt : Sp := fun vs H Q _ => ∃ p q i : Nat, vs = [.int p, .int q, .int i] ∧ 0 < p ∧ p < 200 ∧ q < 200 ∧ RetL H Q (if p * q ≤ i then [-22] else [(Kp299.dealt p q i : Int)])
theorem sc_dealt : FnScope ["rows", "columns", "i"] ["rows", "columns", "i"] (defScope s_dealt) := ⟨rfl, rfl, rfl, by decide +kernel, rfl, by decide +kernel, by decide +kernel⟩
theorem ok_dealt {f : Addr} {fd : FuncData} (F : Fun K "dealt" "dealt" s_dealt f fd) (hX : IntG mg "REFUSED" (-22)) : FnOk P w K mg base CX0 1 f fd ["rows", "columns", "i"] spDealt := by
  refine F.ok sc_dealt (fun vs H Q E h => ?_) (fun cdv A outer s H vs Q E hr h => ?_)
  · obtain ⟨p, q, i, rfl, _⟩ := h
    rfl
  · obtain ⟨p, q, i, rfl, h0, hp, hq, k⟩ := h
    refine ⟨_, pss_cons (ps_if (pt_cmpR op_ge (pv 2) (pe_op op_mul (pv 0) (pv 1)) (nomark _)) (pss_one (ps_ret (pe_lst (pa_cons (pe_gi (by rfl) hX) pa_nil)))) pss_nil)
      (pss_one (ps_ret (pe_lst (pa_cons (pe_op op_add (pe_op op_mul (pe_op op_mod (pv 2) (pv 0)) (pv 1)) (pe_op op_fdiv (pv 2) (pv 0))) pa_nil)))), ?_⟩
    refine ⟨_, rfl, _, rfl, _, rfl, _, _, rfl, rfl, .inl ⟨by omega, by omega⟩, _, _, rfl, rfl, _, rfl, ?_⟩
    refine ite2 (fun h1 => ?_) (fun h1 => ?_)
    · have l : p * q ≤ i := by have := decT h1; exact_mod_cast this
      rw [if_pos l] at k
      exact ⟨by show 1 ≤ sizeLine; decide, fun r hr => retL_new k (Same.refl _) hr rfl⟩
    · have l : ¬ p * q ≤ i := fun z => decF h1 (by exact_mod_cast z)
      rw [if_neg l] at k
      exact ⟨_, rfl, _, rfl, _, _, rfl, rfl, (by show (0 : Int) < (p : Int); omega), _, rfl, _, _, rfl, rfl, .inr ⟨by omega, by omega⟩, _, rfl, _, rfl, _, _, rfl, rfl, ⟨by omega, by omega⟩, _, _, rfl, rfl,
        by show 1 ≤ sizeLine; decide, fun r hr => retL_new k (Same.refl _) hr rfl⟩
def spDealtPairs : Sp := fun vs H Q _ => ∃ p q : Nat, vs = [.int p, .int q] ∧ 0 < p ∧ p < 200 ∧ 0 < q ∧ q < 200 ∧ RetL H Q [(Kp299.dealtPairs p q : Int)]
theorem sc_dealtp : FnScope ["rows", "columns"] ["rows", "columns"] (defScope s_dealt_pairs) := ⟨rfl, rfl, rfl, by decide +kernel, rfl, by decide +kernel, by decide +kernel⟩
theorem half_bound {p : Nat} (h : p < 200) : p * (p - 1) / 2 < 20000 := by
  have : p * (p - 1) ≤ 199 * 199 := Nat.mul_le_mul (by omega) (by omega)
  omega
theorem ok_dealtp {f : Addr} {fd : FuncData} (F : Fun K "dealt_pairs" "dealt_pairs" s_dealt_pairs f fd) : FnOk P w K mg base CX0 1 f fd ["rows", "columns"] spDealtPairs := by
  refine F.ok sc_dealtp (fun vs H Q E h => ?_) (fun cdv A outer s H vs Q E hr h => ?_)
  · obtain ⟨p, q, rfl, _⟩ := h
    rfl
  · obtain ⟨p, q, rfl, p0, hp, q0, hq, k⟩ := h
    refine ⟨_, pss_one (ps_ret (pe_lst (pa_cons (pe_op op_mul (pe_op op_fdiv (pe_op op_mul (pv 0) (pe_op op_sub (pv 0) pe_int)) pe_int) (pe_op op_fdiv (pe_op op_mul (pv 1) (pe_op op_sub (pv 1) pe_int)) pe_int)) pa_nil))), ?_⟩
    have ep : (p : Int) - 1 = ((p - 1 : Nat) : Int) := by omega
    have eq : (q : Int) - 1 = ((q - 1 : Nat) : Int) := by omega
    have bp := half_bound hp
    have e1 : (p : Int) * ((p : Int) - 1) / 2 = ((p * (p - 1) / 2 : Nat) : Int) := by rw [ep]; push_cast; rfl
    have e2 : (q : Int) * ((q : Int) - 1) / 2 = ((q * (q - 1) / 2 : Nat) : Int) := by rw [eq]; push_cast; rfl
    refine ⟨_, rfl, _, rfl, _, _, rfl, rfl, _, _, rfl, rfl, .inl ⟨by omega, by omega⟩, _, _, rfl, rfl, ⟨by decide, by decide⟩, _, rfl, _, rfl, _, _, rfl, rfl, _, _, rfl, rfl, .inl ⟨by omega, by omega⟩, _, _, rfl, rfl, ⟨by decide, by decide⟩,
      _, _, rfl, rfl, .inl ?_, by show 1 ≤ sizeLine; decide, fun r hr => retL_new k (Same.refl _) hr ?_⟩
    · show -(2 ^ 64) < (p : Int) * ((p : Int) - 1) / 2 ∧ (p : Int) * ((p : Int) - 1) / 2 < 2 ^ 64
      rw [e1]
      omega
    · show HO.lst [V.int ((p : Int) * ((p : Int) - 1) / 2 * ((q : Int) * ((q : Int) - 1) / 2))] = _
      rw [e1, e2]
      unfold Kp299.dealtPairs
      rfl
theorem sc_cans : FnScope ["p", "q", "number", "given"] ["p", "q", "number", "given"] (defScope s_card_answer) := ⟨rfl, rfl, rfl, by decide +kernel, rfl, by decide +kernel, by decide +kernel⟩
theorem ok_cans {f : Addr} {fd : FuncData} (F : Fun K "card_answer" "card_answer" s_card_answer f fd) (hD : IntG mg "DEALT" 17) (hT : IntG mg "DEALTTO" 18)
    (C1 : Cal P w K mg base 1 "dealt" ["rows", "columns", "i"] spDealt) (C2 : Cal P w K mg base 1 "dealt_pairs" ["rows", "columns"] spDealtPairs) :
    FnOk P w K mg base CX0 2 f fd ["p", "q", "number", "given"] (spDue [17, 18, 19] true) := by
  refine F.ok sc_cans (fun vs H Q E h => ?_) (fun cdv A outer s H vs Q E hr h => ?_)
  · obtain ⟨p, q, c, g, gs, rfl, _⟩ := h
    rfl
  · obtain ⟨p, q, c, g, gs, rfl, okp, okq, hg, lc, hc, k⟩ := h
    have hp := okP_lt okp
    have h3 := okP_ge okp
    have h0 : 0 < p := by omega
    have hq := okP_lt okq
    have q3 := okP_ge okq
    have q0 : 0 < q := by omega
    refine ⟨_, pss_cons (ps_if (pt_cmpR op_eq (pv 2) (pe_gi (by rfl) hD) (nomark _)) (pss_one (ps_ret (pe_cal C1 hr (by rfl) (pa_cons (pv 0) (pa_cons (pv 1) (pa_cons (pe_ix ix_list (pv 3) pe_int (fun _ _ => rfl)) pa_nil)))))) pss_nil)
      (pss_cons (ps_if (pt_cmpR op_eq (pv 2) (pe_gi (by rfl) hT) (nomark _)) (pss_one (ps_ret (pe_cal C1 hr (by rfl) (pa_cons (pv 1) (pa_cons (pv 0) (pa_cons (pe_ix ix_list (pv 3) pe_int (fun _ _ => rfl)) pa_nil)))))) pss_nil)
      (pss_one (ps_ret (pe_cal C2 hr (by rfl) (pa_cons (pv 0) (pa_cons (pv 1) pa_nil)))))), ?_⟩
    cases lc with
    | c17 x hx =>
      rw [st_17] at k
      refine ⟨_, rfl, rfl, _, rfl, eqT rfl ?_⟩
      exact ⟨_, rfl, _, rfl, _, rfl, g, _, _, _, rfl, rfl, SqL.of hg, rfl, p, q, x, rfl, h0, hp, hq, k⟩
    | c18 x hx =>
      rw [st_18, Nat.mul_comm p q] at k
      refine ⟨_, rfl, rfl, _, rfl, eqF (by decide) ?_⟩
      refine ⟨_, rfl, rfl, _, rfl, eqT rfl ?_⟩
      exact ⟨_, rfl, _, rfl, _, rfl, g, _, _, _, rfl, rfl, SqL.of hg, rfl, q, p, x, rfl, q0, hq, hp, k⟩
    | c19 =>
      rw [st_19] at k
      refine ⟨_, rfl, rfl, _, rfl, eqF (by decide) ?_⟩
      refine ⟨_, rfl, rfl, _, rfl, eqF (by decide) ?_⟩
      exact ⟨_, rfl, _, rfl, p, q, rfl, h0, hp, q0, hq, k⟩
    | _ => simp at hc
end
end Bp

namespace Bp
open PySem PySem.Spec PyProof.Rows L2
theorem neT {i j : Int} {A B : Prop} (h : i ≠ j) (a : A) : if (!decide (V.int i = V.int j)) = true then A else B := by
  have e : decide (V.int i = V.int j) = false := decide_eq_false fun z => h (V.int.inj z)
  rw [e]
  exact a
theorem neF {i j : Int} {A B : Prop} (h : i = j) (b : B) : if (!decide (V.int i = V.int j)) = true then A else B := by
  have e : decide (V.int i = V.int j) = true := decide_eq_true (congrArg V.int h)
  rw [e]
  exact b
theorem vN_get {l : List Nat} {j x : Nat} (h : l[j]? = some x) : (vI (iN l))[j]? = some (V.int (x : Int)) := by
  unfold vI iN
  rw [List.getElem?_map, List.getElem?_map, h]
  rfl
theorem vN_flat (l : List Nat) : (vI (iN l)).all flatV = true := by
  unfold vI iN
  rw [List.all_map, List.all_map]
  exact List.all_eq_true.mpr fun _ _ => rfl
theorem vN_of {l : List Nat} {j : Nat} {y : V} (h : (vI (iN l))[j]? = some y) : ∃ x, l[j]? = some x ∧ y = V.int (x : Int) := by
  obtain ⟨z, hz, rfl⟩ := vI_get h
  unfold iN at hz
  rw [List.getElem?_map] at hz
  cases e : l[j]? with
  | none => rw [e] at hz; cases hz
  | some x => rw [e] at hz; exact ⟨x, rfl, congrArg V.int (Option.some.inj hz).symm⟩
theorem mult_get {p a j : Nat} (h : j < p - 1) : (Kp299.multiples p a)[j]? = some (Kp299.place p a (j + 1)) := by
  unfold Kp299.multiples
  rw [List.getElem?_map, upTo_get h]
  rfl
section
variable {P : Program} {w : World} {K : PySem.W.Frag} {mg : Str → Option Value} {base : Heap}
/-! ### place -/
def spPlace : Sp := fun vs H Q _ => ∃ p a y : Nat, vs = [.int p, .int a, .int y] ∧ 0 < p ∧ p < 200 ∧ a < p ∧ RetL H Q (if y = 0 ∨ p ≤ y then [-22] else [(Kp299.place p a y : Int)])
theorem sc_place : FnScope ["p", "a", "k"] ["p", "a", "k"] (defScope s_place) := ⟨rfl, rfl, rfl, by decide +kernel, rfl, by decide +kernel, by decide +kernel⟩
theorem ok_place {f : Addr} {fd : FuncData} (F : Fun K "place" "place" s_place f fd) (hX : IntG mg "REFUSED" (-22)) (CX : Cal P w K mg base 1 "multiple" ["p", "a", "k"] spMul) : FnOk P w K mg base CX0 2 f fd ["p", "a", "k"] spPlace := by
  refine F.ok sc_place (fun vs H Q E h => ?_) (fun cdv A outer s H vs Q E hr h => ?_)
  · obtain ⟨p, a, y, rfl, _⟩ := h
    rfl
  · obtain ⟨p, a, y, rfl, h0, hp, ha, k⟩ := h
    refine ⟨_, pss_cons (ps_if (pw_or (pt_cmpR op_lt (pv 2) pe_int (nomark _)) (pw_or1 (pt_cmpR op_gt (pv 2) (pe_op op_sub (pv 0) pe_int) (nomark _)))).pt (pss_one (ps_ret (pe_lst (pa_cons (pe_gi (by rfl) hX) pa_nil)))) pss_nil)
      (pss_one (ps_ret (pe_lst (pa_cons (pe_cal CX hr (by rfl) (pa_cons (pv 0) (pa_cons (pv 1) (pa_cons (pv 2) pa_nil)))) pa_nil)))), ?_⟩
    refine ⟨_, rfl, _, _, rfl, rfl, _, rfl, ?_⟩
    refine ite2 (fun h1 => ?_) (fun h1 => ?_)
    · rw [if_pos (.inl (by have := decT h1; omega))] at k
      exact iteT ⟨by show 1 ≤ sizeLine; decide, fun r hr => retL_new k (Same.refl _) hr rfl⟩
    refine ⟨_, rfl, _, rfl, _, _, rfl, rfl, _, _, rfl, rfl, _, rfl, ?_⟩
    refine ite2 (fun h2 => ?_) (fun h2 => ?_)
    · rw [if_pos (.inr (by have := decT h2; omega))] at k
      exact ⟨by show 1 ≤ sizeLine; decide, fun r hr => retL_new k (Same.refl _) hr rfl⟩
    have g1 : ¬ (y = 0 ∨ p ≤ y) := by
      have := decF h1
      have := decF h2
      omega
    rw [if_neg g1] at k
    exact ⟨_, rfl, _, rfl, _, rfl, p, a, y, rfl, h0, hp, ha, by show 1 ≤ sizeLine; decide, fun r hr => retL_new k (Same.refl _) hr rfl⟩
/-! ### where -/
def spWhere : Sp := fun vs H Q _ => ∃ p a b : Nat, vs = [.int p, .int a, .int b] ∧ Kp299.okP p = true ∧ a < p ∧ a ≠ 0 ∧ b < p ∧ RetL H Q (if b = 0 then [-22] else [((((Kp299.upTo (p - 1)).find? fun k => Kp299.place p a k == b).getD 0 : Nat) : Int)])
theorem sc_where : FnScope ["p", "a", "b"] ["p", "a", "b"] (defScope s_where) := ⟨rfl, rfl, rfl, by decide +kernel, rfl, by decide +kernel, by decide +kernel⟩
theorem ok_where {f : Addr} {fd : FuncData} (F : Fun K "where" "where" s_where f fd) (hX : IntG mg "REFUSED" (-22)) (CM : Cal P w K mg base 2 "multiples_to" ["p", "a", "last"] spMulTo) : FnOk P w K mg base CX0 3 f fd ["p", "a", "b"] spWhere := by
  refine F.ok sc_where (fun vs H Q E h => ?_) (fun cdv A outer s H vs Q E hr h => ?_)
  · obtain ⟨p, a, b, rfl, _⟩ := h
    rfl
  · obtain ⟨p, a, b, rfl, okp, ha, a0, hb, k⟩ := h
    have hp := okP_lt okp
    have h3 := okP_ge okp
    have h0 : 0 < p := by omega
    refine ⟨_, pss_cons (ps_if (pt_cmpR op_eq (pv 2) pe_int (nomark _)) (pss_one (ps_ret (pe_lst (pa_cons (pe_gi (by rfl) hX) pa_nil)))) pss_nil)
      (pss_one (ps_ret (pe_lst (pa_cons (pe_op op_add (pe_bm PySem.F.plainAttrs_list PySem.F.slot_list_index PySem.F.type_list_index mt_index (pe_cal CM hr (by rfl) (pa_cons (pv 0) (pa_cons (pv 1) (pa_cons (pe_op op_sub (pv 0) pe_int) pa_nil)))) (pa_cons (pv 2) pa_nil)) pe_int) pa_nil)))), ?_⟩
    refine ⟨_, rfl, rfl, _, rfl, ?_⟩
    refine ite2 (fun h1 => ?_) (fun h1 => ?_)
    · rw [if_pos (by have := vEq h1; omega)] at k
      exact ⟨by show 1 ≤ sizeLine; decide, fun r hr => retL_new k (Same.refl _) hr rfl⟩
    have b0 : ¬ b = 0 := fun z => vNe h1 (by rw [z]; rfl)
    rw [if_neg b0] at k
    have ma : a % p = a := Nat.mod_eq_of_lt ha
    have mb : b % p = b := Nat.mod_eq_of_lt hb
    obtain ⟨j, j1, j2, j3, j4⟩ := first_upTo (n := p - 1) (f := fun k => Kp299.place p a k == b) (by
      obtain ⟨k, k1, k2, k3⟩ := where_ex okp (a := a) (b := b) (by rw [ma]; exact a0) (by rw [mb]; exact b0)
      exact ⟨k, k1, k2, by rw [k3, mb]; simp⟩)
    rw [j4] at k
    have ep : (p : Int) - 1 = ((p - 1 : Nat) : Int) := by omega
    refine ⟨_, rfl, _, rfl, _, rfl, _, _, rfl, rfl, p, a, p - 1, by rw [← ep]; rfl, h0, hp, ha, by omega, fun H1 m s1 n1 e1 => ?_⟩
    have gj := vN_get (mult_get (p := p) (a := a) j1)
    refine ⟨.inl ⟨rfl, _, SqL.of e1⟩, _, rfl, m, _, _, j, _, rfl, rfl, SqL.of e1, rfl, vN_flat _, gj, ?_, ?_, _, _, rfl, rfl, by show 1 ≤ sizeLine; decide, fun r hr => retL_new k s1 hr ?_⟩
    · show ((Kp299.place p a (j + 1) : Int) == (b : Int)) = true
      have := eq_of_beq j2
      rw [this]
      exact beq_self_eq_true _
    · intro m' z' hm hz
      have hm2 : m' < p - 1 := by omega
      have e := (vN_get (mult_get (p := p) (a := a) hm2)).symm.trans hz
      have e2 := Option.some.inj e
      subst e2
      show ((Kp299.place p a (m' + 1) : Int) == (b : Int)) = false
      have := j3 m' hm
      rw [beq_eq_false_iff_ne] at this ⊢
      omega
    · rfl
/-! ### pairs -/
def spPairs : Sp := fun vs H Q _ => ∃ p a : Nat, vs = [.int p, .int a] ∧ 3 ≤ p ∧ p < 200 ∧ a < p ∧ RetL H Q [(Kp299.pairs p a : Int)]
theorem sc_pairs : FnScope ["p", "a", "in_order", "found", "latter", "former"] ["p", "a"] (defScope s_pairs) := ⟨rfl, rfl, rfl, by decide +kernel, rfl, by decide +kernel, by decide +kernel⟩
theorem ok_pairs {f : Addr} {fd : FuncData} (F : Fun K "pairs" "pairs" s_pairs f fd) (hR : mg "range" = none) (CM : Cal P w K mg base 2 "multiples_to" ["p", "a", "last"] spMulTo) : FnOk P w K mg base CX0 3 f fd ["p", "a"] spPairs := by
  refine F.ok sc_pairs (fun vs H Q E h => ?_) (fun cdv A outer s H vs Q E hr h => ?_)
  · obtain ⟨p, a, rfl, _⟩ := h
    rfl
  · obtain ⟨p, a, rfl, h3, hp, ha, k⟩ := h
    refine ⟨_, pss_cons (ps_set (i := 2) sc_pairs.nd rfl (Or.inl rfl) (pe_cal CM hr (by rfl) (pa_cons (pv 0) (pa_cons (pv 1) (pa_cons (pe_op op_sub (pv 0) pe_int) pa_nil)))))
      (pss_cons (ps_set (i := 3) sc_pairs.nd rfl (Or.inl rfl) pe_int)
      (pss_cons (ps_for PassesOwn.never rfl (pi_range2 (by rfl) hR (pa_cons pe_int (pa_cons (pe_op op_sub (pv 0) pe_int) pa_nil))) (pg_name (i := 4) sc_pairs.nd rfl (Or.inl rfl))
        (pss_one (ps_for PassesOwn.never rfl (pi_range1 (by rfl) hR (pa_cons (pv 4) pa_nil)) (pg_name (i := 5) sc_pairs.nd rfl (Or.inl rfl))
          (pss_one (ps_if (pt_cmpR op_gt (pe_ix ix_list (pv 2) (pv 5) (fun _ _ => rfl)) (pe_ix ix_list (pv 2) (pv 4) (fun _ _ => rfl)) (nomark _)) (pss_one (ps_aug (i := 3) sc_pairs.nd rfl (Or.inl rfl) pe_int ip_add)) pss_nil)))))
      (pss_one (ps_ret (pe_lst (pa_cons (pv 3) pa_nil)))))), ?_⟩
    have ep : (p : Int) - 1 = ((p - 1 : Nat) : Int) := by omega
    refine ⟨_, rfl, _, rfl, _, rfl, _, _, rfl, rfl, p, a, p - 1, by rw [← ep]; rfl, by omega, hp, ha, by omega, fun H1 m s1 n1 e1 => ?_⟩
    have e1 : H1 m = some (.lst (vI (iN (Kp299.multiples p a)))) := e1
    refine ⟨_, rfl, _, _, rfl, rfl, _, _, rfl, ⟨by decide, by decide, by omega, by omega⟩, ?_⟩
    refine for_range (fun i σ H' => ∃ v4 v5 : Option V, σ = [some (.int p), some (.int a), some (.ref m), some (.int ((Kp299.inversions ((Kp299.multiples p a).take (i + 1)) : Nat) : Int)), v4, v5] ∧ H' = H1) ⟨none, none, by rw [inv_one]; rfl, rfl⟩ ?_ ?_
    · rintro i σ H' hi ⟨v4, v5, rfl, rfl⟩
      have hi2 : i + 1 < p - 1 := by omega
      have gz := mult_get (p := p) (a := a) hi2
      refine ⟨_, rfl, _, rfl, by omega, by omega, ?_⟩
      refine for_range (fun j σ H2 => ∃ v5 : Option V, σ = [some (.int p), some (.int a), some (.ref m), some (.int ((Kp299.inversions ((Kp299.multiples p a).take (i + 1)) + grt (Kp299.multiples p a) (Kp299.place p a (i + 1 + 1)) j : Nat) : Int)), some (.int (1 + (i : Int))), v5] ∧ H2 = H') ⟨v5, by rw [grt_zero]; rfl, rfl⟩ ?_ ?_
      · rintro j σ H2 hj ⟨v5, rfl, rfl⟩
        have hj2 : j < p - 1 := by omega
        have gx := mult_get (p := p) (a := a) hj2
        refine ⟨_, rfl, _, rfl, m, _, _, _, rfl, rfl, SqL.of e1, at_of (j := j) (by omega) (vN_get gx), _, rfl, _, rfl, m, _, _, _, rfl, rfl, SqL.of e1, at_of (j := i + 1) (by omega) (vN_get gz), _, _, rfl, rfl, _, rfl, ?_⟩
        refine ite2 (fun h4 => ?_) (fun h4 => ?_)
        · have g : Kp299.place p a (i + 1 + 1) < Kp299.place p a (j + 1) := by have := decT h4; omega
          refine ⟨_, rfl, _, _, rfl, rfl, ?_⟩
          refine ⟨some (V.int (0 + (j : Int))), ?_, rfl⟩
          rw [grt_yes gx g]
          rfl
        · have g : ¬ Kp299.place p a (i + 1 + 1) < Kp299.place p a (j + 1) := by have := decF h4; omega
          refine ⟨some (V.int (0 + (j : Int))), ?_, rfl⟩
          rw [grt_no gx g]
          rfl
      · rintro σ H2 ⟨v5, rfl, rfl⟩
        have en : (1 + (i : Int)).toNat = i + 1 := by omega
        refine ⟨some (V.int (1 + (i : Int))), v5, ?_, rfl⟩
        rw [inv_step gz, en]
    · rintro σ H' ⟨v4, v5, rfl, rfl⟩
      have en : (((p : Int) - 1) - 1).toNat + 1 = p - 1 := by omega
      have ef : (Kp299.multiples p a).take ((((p : Int) - 1) - 1).toNat + 1) = Kp299.multiples p a := by
        rw [en]
        exact List.take_of_length_le (by rw [multiples_len]; exact Nat.le_refl _)
      refine ⟨_, rfl, by show 1 ≤ sizeLine; decide, fun r hr => retL_new k s1 hr ?_⟩
      rw [ef]
      rfl
/-! ### round_of -/
def spRound : Sp := fun vs H Q _ => ∃ p a y : Nat, vs = [.int p, .int a, .int y] ∧ Kp299.okP p = true ∧ a < p ∧ a ≠ 0 ∧ y < p ∧ y ≠ 0 ∧ RetL H Q (iN (Kp299.roundFrom p a (Kp299.long p a) y))
theorem sc_round : FnScope ["p", "a", "start", "members", "following"] ["p", "a", "start"] (defScope s_round_of) := ⟨rfl, rfl, rfl, by decide +kernel, rfl, by decide +kernel, by decide +kernel⟩
theorem ok_round {f : Addr} {fd : FuncData} (F : Fun K "round_of" "round_of" s_round_of f fd) (CX : Cal P w K mg base 1 "multiple" ["p", "a", "k"] spMul) : FnOk P w K mg base CX0 2 f fd ["p", "a", "start"] spRound := by
  refine F.ok sc_round (fun vs H Q E h => ?_) (fun cdv A outer s H vs Q E hr h => ?_)
  · obtain ⟨p, a, y, rfl, _⟩ := h
    rfl
  · obtain ⟨p, a, y, rfl, okp, ha, a0, hy, y0, k⟩ := h
    have hp := okP_lt okp
    have h3 := okP_ge okp
    have h0 : 0 < p := by omega
    have my : y % p = y := Nat.mod_eq_of_lt hy
    obtain ⟨l1, l2, l3, l4⟩ := long_ex okp (a := a) (by rw [Nat.mod_eq_of_lt ha]; exact a0)
    refine ⟨_, pss_cons (ps_set (i := 3) sc_round.nd rfl (Or.inl rfl) (pe_lst (pa_cons (pv 2) pa_nil)))
      (pss_cons (ps_set (i := 4) sc_round.nd rfl (Or.inl rfl) (pe_cal CX hr (by rfl) (pa_cons (pv 0) (pa_cons (pv 1) (pa_cons (pv 2) pa_nil)))))
      (pss_cons (ps_while PassesOwn.never (pt_cmpR op_ne (pv 4) (pv 2) (nomark _))
        (pss_cons (ps_expr (pe_bm PySem.F.plainAttrs_list PySem.F.slot_list_append PySem.F.type_list_append mt_append (pv 3) (pa_cons (pv 4) pa_nil)))
        (pss_one (ps_set (i := 4) sc_round.nd rfl (Or.inl rfl) (pe_cal CX hr (by rfl) (pa_cons (pv 0) (pa_cons (pv 1) (pa_cons (pv 4) pa_nil))))))))
      (pss_one (ps_ret (pv 3))))), ?_⟩
    refine ⟨_, rfl, by show 1 ≤ sizeLine; decide, fun l hl => ?_⟩
    refine ⟨_, rfl, _, rfl, _, rfl, p, a, y, rfl, h0, hp, ha, ?_⟩
    have e0 : Kp299.place p a y = y * a ^ 1 % p := by rw [Nat.pow_one]; rfl
    refine ⟨fun m σ H' => ∃ j : Nat, 1 ≤ j ∧ j ≤ Kp299.long p a ∧ m = Kp299.long p a - j ∧ σ = [some (.int p), some (.int a), some (.int y), some (.ref l), some (.int ((y * a ^ j % p : Nat) : Int))] ∧ Same H H' ∧ H' l = some (.lst (vI (iN (Kp299.roundFrom p a j y)))),
      ⟨Kp299.long p a - 1, 1, Nat.le_refl _, l1, rfl, by rw [← e0]; rfl, same_new (Same.refl _) hl, upd_same⟩, ?_⟩
    rintro m σ H' ⟨j, j1, j2, rfl, rfl, s2, hl2⟩
    refine ⟨_, rfl, _, rfl, rfl, _, rfl, ?_⟩
    by_cases he : y * a ^ j % p = y
    · refine neF (by rw [he]) ?_
      have ej : j = Kp299.long p a := by
        rcases Nat.lt_or_ge j (Kp299.long p a) with z | z
        · exact absurd ((round_again okp (by rw [my]; exact y0)).mp (he.trans my.symm)) (l4 j j1 z)
        · omega
      rw [ej] at hl2
      exact ⟨_, rfl, k H' l s2 hl hl2⟩
    · refine neT (by omega) ?_
      have jl : j < Kp299.long p a := by
        rcases Nat.lt_or_ge j (Kp299.long p a) with z | z
        · exact z
        · have ej : j = Kp299.long p a := by omega
          exact absurd (((round_again okp (by rw [my]; exact y0)).mpr (by rw [ej]; exact l3)).trans my) he
      refine ⟨fun σ' H2 => ∃ j' : Nat, j < j' ∧ j' ≤ Kp299.long p a ∧ σ' = [some (.int p), some (.int a), some (.int y), some (.ref l), some (.int ((y * a ^ j' % p : Nat) : Int))] ∧ Same H H2 ∧ H2 l = some (.lst (vI (iN (Kp299.roundFrom p a j' y)))),
        fun σ' H2 ⟨j', a1, a2, a3, a4, a5⟩ => ⟨Kp299.long p a - j', by omega, j', by omega, a2, rfl, a3, a4, a5⟩, ?_⟩
      refine ⟨_, rfl, .inl ⟨rfl, _, SqL.of hl2⟩, _, rfl, l, _, _, rfl, rfl, hl2, ?_, ?_⟩
      · rw [vI_len, iN_len, roundFrom_len]
        exact sz (m := 200) (by omega)
      refine ⟨_, rfl, _, rfl, _, rfl, p, a, y * a ^ j % p, rfl, h0, hp, ha, ?_⟩
      refine ⟨j + 1, by omega, by omega, ?_, same_new s2 hl, ?_⟩
      · rw [← round_next]
        rfl
      · rw [upd_same, roundFrom_snoc p a j y hy, iN_snoc, vI_snoc]
/-! ### long_and_many, fewest, whole_round -/
def spLong : Sp := fun vs H Q _ => ∃ p a : Nat, vs = [.int p, .int a] ∧ Kp299.okP p = true ∧ a < p ∧ a ≠ 0 ∧ RetL H Q [(Kp299.long p a : Int), (Kp299.rounds p a : Int)]
theorem sc_long : FnScope ["p", "a", "length"] ["p", "a"] (defScope s_long_and_many) := ⟨rfl, rfl, rfl, by decide +kernel, rfl, by decide +kernel, by decide +kernel⟩
theorem ok_long {f : Addr} {fd : FuncData} (F : Fun K "long_and_many" "long_and_many" s_long_and_many f fd) (hL : mg "len" = none) (CR : Cal P w K mg base 2 "round_of" ["p", "a", "start"] spRound) : FnOk P w K mg base CX0 3 f fd ["p", "a"] spLong := by
  refine F.ok sc_long (fun vs H Q E h => ?_) (fun cdv A outer s H vs Q E hr h => ?_)
  · obtain ⟨p, a, rfl, _⟩ := h
    rfl
  · obtain ⟨p, a, rfl, okp, ha, a0, k⟩ := h
    have hp := okP_lt okp
    have h3 := okP_ge okp
    obtain ⟨l1, l2, _, _⟩ := long_ex okp (a := a) (by rw [Nat.mod_eq_of_lt ha]; exact a0)
    refine ⟨_, pss_cons (ps_set (i := 2) sc_long.nd rfl (Or.inl rfl) (pe_callB call_len_seq (by rfl) hL PySem.boot_len (pa_cons (pe_cal CR hr (by rfl) (pa_cons (pv 0) (pa_cons (pv 1) (pa_cons pe_int pa_nil)))) pa_nil)))
      (pss_one (ps_ret (pe_lst (pa_cons (pv 2) (pa_cons (pe_op op_fdiv (pe_op op_sub (pv 0) pe_int) (pv 2)) pa_nil))))), ?_⟩
    refine ⟨_, rfl, _, rfl, p, a, 1, rfl, okp, ha, a0, by omega, by omega, fun H1 m s1 n1 e1 => ?_⟩
    generalize hys : vI (iN (Kp299.roundFrom p a (Kp299.long p a) 1)) = ys at e1
    have hlen : ys.length = Kp299.long p a := by rw [← hys, vI_len, iN_len, roundFrom_len]
    refine ⟨m, ys, rfl, .inl (SqL.of e1), ?_⟩
    refine ⟨_, rfl, _, rfl, _, _, rfl, rfl, _, rfl, _, _, rfl, rfl, ⟨by omega, by omega⟩, by show 2 ≤ sizeLine; decide, fun r hr => retL_new k s1 hr ?_⟩
    show HO.lst [V.int (ys.length : Int), V.int (((p : Int) - 1) / (ys.length : Int))] = _
    have ep : (p : Int) - 1 = ((p - 1 : Nat) : Int) := by omega
    rw [hlen, ep]
    rfl
def spFewest : Sp := fun vs H Q _ => ∃ p a : Nat, vs = [.int p, .int a] ∧ Kp299.okP p = true ∧ a < p ∧ a ≠ 0 ∧ RetL H Q [((p - 1 - Kp299.rounds p a : Nat) : Int)]
theorem sc_fewest : FnScope ["p", "a"] ["p", "a"] (defScope s_fewest) := ⟨rfl, rfl, rfl, by decide +kernel, rfl, by decide +kernel, by decide +kernel⟩
theorem ok_fewest {f : Addr} {fd : FuncData} (F : Fun K "fewest" "fewest" s_fewest f fd) (CL : Cal P w K mg base 3 "long_and_many" ["p", "a"] spLong) : FnOk P w K mg base CX0 4 f fd ["p", "a"] spFewest := by
  refine F.ok sc_fewest (fun vs H Q E h => ?_) (fun cdv A outer s H vs Q E hr h => ?_)
  · obtain ⟨p, a, rfl, _⟩ := h
    rfl
  · obtain ⟨p, a, rfl, okp, ha, a0, k⟩ := h
    have h3 := okP_ge okp
    have hl := rounds_le p a
    refine ⟨_, pss_one (ps_ret (pe_lst (pa_cons (pe_op op_sub (pe_op op_sub (pv 0) pe_int) (pe_ix ix_list (pe_cal CL hr (by rfl) (pa_cons (pv 0) (pa_cons (pv 1) pa_nil))) pe_int (fun _ _ => rfl))) pa_nil))), ?_⟩
    refine ⟨_, rfl, _, _, rfl, rfl, _, rfl, _, rfl, p, a, rfl, okp, ha, a0, fun H1 m s1 n1 e1 => ?_⟩
    refine ⟨m, _, _, _, rfl, rfl, SqL.of e1, rfl, _, _, rfl, rfl, by show 1 ≤ sizeLine; decide, fun r hr => retL_new k s1 hr ?_⟩
    show HO.lst [V.int ((p : Int) - 1 - (Kp299.rounds p a : Int))] = _
    have e : (p : Int) - 1 - (Kp299.rounds p a : Int) = ((p - 1 - Kp299.rounds p a : Nat) : Int) := by omega
    rw [e]
    rfl
def spWhole : Sp := fun vs H Q _ => ∃ p a y : Nat, vs = [.int p, .int a, .int y] ∧ Kp299.okP p = true ∧ a < p ∧ a ≠ 0 ∧ y < p ∧ RetL H Q (if y = 0 then [-22] else ((Kp299.roundOf p a y).length : Int) :: iN (Kp299.roundOf p a y))
theorem sc_whole : FnScope ["p", "a", "k", "members"] ["p", "a", "k"] (defScope s_whole_round) := ⟨rfl, rfl, rfl, by decide +kernel, rfl, by decide +kernel, by decide +kernel⟩
theorem ok_whole {f : Addr} {fd : FuncData} (F : Fun K "whole_round" "whole_round" s_whole_round f fd) (hX : IntG mg "REFUSED" (-22)) (hL : mg "len" = none) (CR : Cal P w K mg base 2 "round_of" ["p", "a", "start"] spRound) : FnOk P w K mg base CX0 3 f fd ["p", "a", "k"] spWhole := by
  refine F.ok sc_whole (fun vs H Q E h => ?_) (fun cdv A outer s H vs Q E hr h => ?_)
  · obtain ⟨p, a, y, rfl, _⟩ := h
    rfl
  · obtain ⟨p, a, y, rfl, okp, ha, a0, hy, k⟩ := h
    have hp := okP_lt okp
    have ll := long_le p a
    refine ⟨_, pss_cons (ps_if (pt_cmpR op_eq (pv 2) pe_int (nomark _)) (pss_one (ps_ret (pe_lst (pa_cons (pe_gi (by rfl) hX) pa_nil)))) pss_nil)
      (pss_cons (ps_set (i := 3) sc_whole.nd rfl (Or.inl rfl) (pe_cal CR hr (by rfl) (pa_cons (pv 0) (pa_cons (pv 1) (pa_cons (pv 2) pa_nil)))))
      (pss_one (ps_ret (pe_op op_cat (pe_lst (pa_cons (pe_callB call_len_seq (by rfl) hL PySem.boot_len (pa_cons (pv 3) pa_nil)) pa_nil)) (pv 3))))), ?_⟩
    refine ⟨_, rfl, rfl, _, rfl, ?_⟩
    refine ite2 (fun h1 => ?_) (fun h1 => ?_)
    · rw [if_pos (by have := vEq h1; omega)] at k
      exact ⟨by show 1 ≤ sizeLine; decide, fun r hr => retL_new k (Same.refl _) hr rfl⟩
    have y0 : ¬ y = 0 := fun z => vNe h1 (by rw [z]; rfl)
    rw [if_neg y0, roundOf_eq hy] at k
    refine ⟨_, rfl, _, rfl, _, rfl, p, a, y, rfl, okp, ha, a0, hy, y0, fun H1 m s1 n1 e1 => ?_⟩
    generalize hrs : Kp299.roundFrom p a (Kp299.long p a) y = rs at e1 k
    have hlen : rs.length = Kp299.long p a := by rw [← hrs, roundFrom_len]
    have vlen : (vI (iN rs)).length = rs.length := by rw [vI_len, iN_len]
    refine ⟨_, rfl, m, _, rfl, .inl (SqL.of e1), by show 1 ≤ sizeLine; decide, fun l hl => ?_⟩
    have s2 : Same H1 (upd H1 l (.lst [V.int ((vI (iN rs)).length : Int)])) := same_new (Same.refl _) hl
    refine ⟨_, rfl, l, m, _, _, rfl, rfl, upd_same, s2 _ _ e1, ?_, fun r hr => retL_new k (s1.trans s2) hr ?_⟩
    · rw [vlen]
      exact Nat.le_of_lt (sz (m := 400) (by show 1 + rs.length ≤ 400; omega))
    · rw [vlen]
      rfl
/-! ### order_answer -/
theorem sc_oans : FnScope ["p", "number", "given", "a"] ["p", "number", "given"] (defScope s_order_answer) := ⟨rfl, rfl, rfl, by decide +kernel, rfl, by decide +kernel, by decide +kernel⟩
theorem ok_oans {f : Addr} {fd : FuncData} (F : Fun K "order_answer" "order_answer" s_order_answer f fd) (hX : IntG mg "REFUSED" (-22)) (hP : IntG mg "PLACE" 11) (hW : IntG mg "WHERE" 12) (hPa : IntG mg "PAIRS" 13) (hLo : IntG mg "LONG" 14) (hFe : IntG mg "FEWEST" 15)
    (C1 : Cal P w K mg base 2 "place" ["p", "a", "k"] spPlace) (C2 : Cal P w K mg base 3 "where" ["p", "a", "b"] spWhere) (C3 : Cal P w K mg base 3 "pairs" ["p", "a"] spPairs) (C4 : Cal P w K mg base 3 "long_and_many" ["p", "a"] spLong)
    (C5 : Cal P w K mg base 4 "fewest" ["p", "a"] spFewest) (C6 : Cal P w K mg base 3 "whole_round" ["p", "a", "k"] spWhole) :
    FnOk P w K mg base CX0 5 f fd ["p", "number", "given"] (spDue [11, 12, 13, 14, 15, 16] false) := by
  refine F.ok sc_oans (fun vs H Q E h => ?_) (fun cdv A outer s H vs Q E hr h => ?_)
  · obtain ⟨p, q, c, g, gs, rfl, _⟩ := h
    rfl
  · obtain ⟨p, q, c, g, gs, rfl, okp, okq, hg, lc, hc, k⟩ := h
    have hp := okP_lt okp
    have h3 := okP_ge okp
    have h0 : 0 < p := by omega
    have pI : (0 : Int) < (p : Int) := by omega
    have hr2 : Room 2 _ := hr.mono (by decide)
    have hr3 : Room 3 _ := hr.mono (by decide)
    refine ⟨_, pss_cons (ps_set (i := 3) sc_oans.nd rfl (Or.inl rfl) (pe_op op_mod (pe_ix ix_list (pv 2) pe_int (fun _ _ => rfl)) (pv 0)))
      (pss_cons (ps_if (pt_cmpR op_eq (pv 3) pe_int (nomark _)) (pss_one (ps_ret (pe_lst (pa_cons (pe_gi (by rfl) hX) pa_nil)))) pss_nil)
      (pss_cons (ps_if (pt_cmpR op_eq (pv 1) (pe_gi (by rfl) hP) (nomark _)) (pss_one (ps_ret (pe_cal C1 hr2 (by rfl) (pa_cons (pv 0) (pa_cons (pv 3) (pa_cons (pe_ix ix_list (pv 2) pe_int (fun _ _ => rfl)) pa_nil)))))) pss_nil)
      (pss_cons (ps_if (pt_cmpR op_eq (pv 1) (pe_gi (by rfl) hW) (nomark _)) (pss_one (ps_ret (pe_cal C2 hr3 (by rfl) (pa_cons (pv 0) (pa_cons (pv 3) (pa_cons (pe_op op_mod (pe_ix ix_list (pv 2) pe_int (fun _ _ => rfl)) (pv 0)) pa_nil)))))) pss_nil)
      (pss_cons (ps_if (pt_cmpR op_eq (pv 1) (pe_gi (by rfl) hPa) (nomark _)) (pss_one (ps_ret (pe_cal C3 hr3 (by rfl) (pa_cons (pv 0) (pa_cons (pv 3) pa_nil))))) pss_nil)
      (pss_cons (ps_if (pt_cmpR op_eq (pv 1) (pe_gi (by rfl) hLo) (nomark _)) (pss_one (ps_ret (pe_cal C4 hr3 (by rfl) (pa_cons (pv 0) (pa_cons (pv 3) pa_nil))))) pss_nil)
      (pss_cons (ps_if (pt_cmpR op_eq (pv 1) (pe_gi (by rfl) hFe) (nomark _)) (pss_one (ps_ret (pe_cal C5 hr (by rfl) (pa_cons (pv 0) (pa_cons (pv 3) pa_nil))))) pss_nil)
      (pss_one (ps_ret (pe_cal C6 hr3 (by rfl) (pa_cons (pv 0) (pa_cons (pv 3) (pa_cons (pe_op op_mod (pe_ix ix_list (pv 2) pe_int (fun _ _ => rfl)) (pv 0)) pa_nil))))))))))))  , ?_⟩
    cases lc with
    | c11 x y hx hy =>
      rw [st_11] at k
      refine ⟨_, rfl, g, _, _, _, rfl, rfl, SqL.of hg, rfl, _, rfl, _, _, rfl, rfl, pI, ?_⟩
      refine ⟨_, rfl, rfl, _, rfl, ?_⟩
      refine ite2 (fun h1 => ?_) (fun h1 => ?_)
      · have e : x % p = 0 := by have := vEq h1; exact_mod_cast this
        rw [if_pos (.inl e)] at k
        exact ⟨by show 1 ≤ sizeLine; decide, fun r hr => retL_new k (Same.refl _) hr rfl⟩
      · have e : ¬ x % p = 0 := fun z => vNe h1 (by exact_mod_cast z)
        refine ⟨_, rfl, rfl, _, rfl, eqT rfl ?_⟩
        refine ⟨_, rfl, _, rfl, _, rfl, g, _, _, _, rfl, rfl, SqL.of hg, rfl, p, x % p, y, rfl, h0, hp, Nat.mod_lt _ h0, ?_⟩
        rw [place_mod]
        have e2 : (x % p = 0 ∨ y = 0 ∨ p ≤ y) = (y = 0 ∨ p ≤ y) := by simp [e]
        simp only [e2] at k
        exact k
    | c12 x y hx hy =>
      rw [st_12] at k
      refine ⟨_, rfl, g, _, _, _, rfl, rfl, SqL.of hg, rfl, _, rfl, _, _, rfl, rfl, pI, ?_⟩
      refine ⟨_, rfl, rfl, _, rfl, ?_⟩
      refine ite2 (fun h1 => ?_) (fun h1 => ?_)
      · have e : x % p = 0 := by have := vEq h1; exact_mod_cast this
        rw [if_pos (.inl e)] at k
        exact ⟨by show 1 ≤ sizeLine; decide, fun r hr => retL_new k (Same.refl _) hr rfl⟩
      · have e : ¬ x % p = 0 := fun z => vNe h1 (by exact_mod_cast z)
        refine ⟨_, rfl, rfl, _, rfl, eqF (by decide) ?_⟩
        refine ⟨_, rfl, rfl, _, rfl, eqT rfl ?_⟩
        refine ⟨_, rfl, _, rfl, _, rfl, g, _, _, _, rfl, rfl, SqL.of hg, rfl, _, rfl, _, _, rfl, rfl, pI, p, x % p, y % p, rfl, okp, Nat.mod_lt _ h0, e, Nat.mod_lt _ h0, ?_⟩
        have ef : (fun k => Kp299.place p (x % p) k == y % p) = fun k => Kp299.place p x k == y % p := by funext z; rw [place_mod]
        rw [ef]
        have e2 : (x % p = 0 ∨ y % p = 0) = (y % p = 0) := by simp [e]
        simp only [e2] at k
        exact k
    | c13 x hx =>
      rw [st_13] at k
      refine ⟨_, rfl, g, _, _, _, rfl, rfl, SqL.of hg, rfl, _, rfl, _, _, rfl, rfl, pI, ?_⟩
      refine ⟨_, rfl, rfl, _, rfl, ?_⟩
      refine ite2 (fun h1 => ?_) (fun h1 => ?_)
      · have e : x % p = 0 := by have := vEq h1; exact_mod_cast this
        rw [if_pos e] at k
        exact ⟨by show 1 ≤ sizeLine; decide, fun r hr => retL_new k (Same.refl _) hr rfl⟩
      · have e : ¬ x % p = 0 := fun z => vNe h1 (by exact_mod_cast z)
        rw [if_neg e, ← pairs_mod] at k
        refine ⟨_, rfl, rfl, _, rfl, eqF (by decide) ?_⟩
        refine ⟨_, rfl, rfl, _, rfl, eqF (by decide) ?_⟩
        refine ⟨_, rfl, rfl, _, rfl, eqT rfl ?_⟩
        exact ⟨_, rfl, _, rfl, p, x % p, rfl, h3, hp, Nat.mod_lt _ h0, k⟩
    | c14 x hx =>
      rw [st_14] at k
      refine ⟨_, rfl, g, _, _, _, rfl, rfl, SqL.of hg, rfl, _, rfl, _, _, rfl, rfl, pI, ?_⟩
      refine ⟨_, rfl, rfl, _, rfl, ?_⟩
      refine ite2 (fun h1 => ?_) (fun h1 => ?_)
      · have e : x % p = 0 := by have := vEq h1; exact_mod_cast this
        rw [if_pos e] at k
        exact ⟨by show 1 ≤ sizeLine; decide, fun r hr => retL_new k (Same.refl _) hr rfl⟩
      · have e : ¬ x % p = 0 := fun z => vNe h1 (by exact_mod_cast z)
        rw [if_neg e, ← long_mod, ← rounds_mod] at k
        refine ⟨_, rfl, rfl, _, rfl, eqF (by decide) ?_⟩
        refine ⟨_, rfl, rfl, _, rfl, eqF (by decide) ?_⟩
        refine ⟨_, rfl, rfl, _, rfl, eqF (by decide) ?_⟩
        refine ⟨_, rfl, rfl, _, rfl, eqT rfl ?_⟩
        exact ⟨_, rfl, _, rfl, p, x % p, rfl, okp, Nat.mod_lt _ h0, e, k⟩
    | c15 x hx =>
      rw [st_15] at k
      refine ⟨_, rfl, g, _, _, _, rfl, rfl, SqL.of hg, rfl, _, rfl, _, _, rfl, rfl, pI, ?_⟩
      refine ⟨_, rfl, rfl, _, rfl, ?_⟩
      refine ite2 (fun h1 => ?_) (fun h1 => ?_)
      · have e : x % p = 0 := by have := vEq h1; exact_mod_cast this
        rw [if_pos e] at k
        exact ⟨by show 1 ≤ sizeLine; decide, fun r hr => retL_new k (Same.refl _) hr rfl⟩
      · have e : ¬ x % p = 0 := fun z => vNe h1 (by exact_mod_cast z)
        rw [if_neg e, ← rounds_mod] at k
        refine ⟨_, rfl, rfl, _, rfl, eqF (by decide) ?_⟩
        refine ⟨_, rfl, rfl, _, rfl, eqF (by decide) ?_⟩
        refine ⟨_, rfl, rfl, _, rfl, eqF (by decide) ?_⟩
        refine ⟨_, rfl, rfl, _, rfl, eqF (by decide) ?_⟩
        refine ⟨_, rfl, rfl, _, rfl, eqT rfl ?_⟩
        exact ⟨_, rfl, _, rfl, p, x % p, rfl, okp, Nat.mod_lt _ h0, e, k⟩
    | c16 x y hx hy =>
      rw [st_16] at k
      refine ⟨_, rfl, g, _, _, _, rfl, rfl, SqL.of hg, rfl, _, rfl, _, _, rfl, rfl, pI, ?_⟩
      refine ⟨_, rfl, rfl, _, rfl, ?_⟩
      refine ite2 (fun h1 => ?_) (fun h1 => ?_)
      · have e : x % p = 0 := by have := vEq h1; exact_mod_cast this
        rw [if_pos (.inl e)] at k
        exact ⟨by show 1 ≤ sizeLine; decide, fun r hr => retL_new k (Same.refl _) hr rfl⟩
      · have e : ¬ x % p = 0 := fun z => vNe h1 (by exact_mod_cast z)
        refine ⟨_, rfl, rfl, _, rfl, eqF (by decide) ?_⟩
        refine ⟨_, rfl, rfl, _, rfl, eqF (by decide) ?_⟩
        refine ⟨_, rfl, rfl, _, rfl, eqF (by decide) ?_⟩
        refine ⟨_, rfl, rfl, _, rfl, eqF (by decide) ?_⟩
        refine ⟨_, rfl, rfl, _, rfl, eqF (by decide) ?_⟩
        refine ⟨_, rfl, _, rfl, _, rfl, g, _, _, _, rfl, rfl, SqL.of hg, rfl, _, rfl, _, _, rfl, rfl, pI, p, x % p, y % p, rfl, okp, Nat.mod_lt _ h0, e, Nat.mod_lt _ h0, ?_⟩
        rw [roundOf_mod2, roundOf_mod]
        have e2 : (x % p = 0 ∨ y % p = 0) = (y % p = 0) := by simp [e]
        simp only [e2] at k
        exact k
    | _ => simp at hc
end
end Bp

namespace Bp
open PySem PySem.Spec PyProof.Rows L2
section
variable {P : Program} {w : World} {K : PySem.W.Frag} {mg : Str → Option Value} {base : Heap} {C : Addr}
/-! ### call_answer -/
structure TxtN (mg : Str → Option Value) : Prop where
  n0 : IntG mg "BEGIN" 0
  n1 : IntG mg "EXCHANGE" 1
  n2 : IntG mg "NEXT" 2
  n3 : IntG mg "FOLD" 3
  n4 : IntG mg "FOLDS" 4
  n5 : IntG mg "FOLDEDALL" 5
  n6 : IntG mg "COLUMN" 6
  n7 : IntG mg "ROW" 7
  n8 : IntG mg "UNDER" 8
  n9 : IntG mg "OVER" 9
  n10 : IntG mg "INSIDE" 10
  n11 : IntG mg "PLACE" 11
  n12 : IntG mg "WHERE" 12
  n13 : IntG mg "PAIRS" 13
  n14 : IntG mg "LONG" 14
  n15 : IntG mg "FEWEST" 15
  n16 : IntG mg "ROUND" 16
  n20 : IntG mg "TOLD" 20
  nb : IntG mg "NOT_BEGUN" (-11)
theorem in_no {c : Int} {l : List Int} (h : c ∉ l) : inV (V.int c) (vI l) = false := by
  unfold inV vI
  rw [List.any_map, List.any_eq_false]
  intro x hx z
  exact h ((eq_of_beq (show (x == c) = true from z)) ▸ hx)
theorem in_yes {c : Int} {l : List Int} (h : c ∈ l) : inV (V.int c) (vI l) = true := by
  unfold inV vI
  rw [List.any_map, List.any_eq_true]
  exact ⟨c, h, beq_self_eq_true c⟩
theorem sc_call : FnScope ["session", "number", "given"] ["session", "number", "given"] (defScope s_call_answer) := ⟨rfl, rfl, rfl, by decide +kernel, rfl, by decide +kernel, by decide +kernel⟩
theorem inT {x : V} {xs : List V} {A B : Prop} (h : inV x xs = true) (a : A) : if (if false = true then !inV x xs else inV x xs) = true then A else B := by
  rw [if_neg Bool.false_ne_true, if_pos h]
  exact a
theorem inF {x : V} {xs : List V} {A B : Prop} (h : inV x xs = false) (b : B) : if (if false = true then !inV x xs else inV x xs) = true then A else B := by
  rw [if_neg Bool.false_ne_true, if_neg (by rw [h]; exact Bool.false_ne_true)]
  exact b
theorem ok_call {f : Addr} {fd : FuncData} (F : Fun K "call_answer" "call_answer" s_call_answer f fd) (T : TxtS K C) (N : TxtN mg)
    (M1 : CalM P w K mg base 2 C "begin" ["self", "p", "q"] (spBegin C)) (M2 : CalM P w K mg base 1 C "begun" ["self"] (spBegun C)) (M3 : CalM P w K mg base 2 C "exchange" ["self"] (spExchange C)) (M4 : CalM P w K mg base 3 C "move_on" ["self"] (spMove C))
    (M5 : CalM P w K mg base 1 C "told" ["self"] (spTold C))
    (C1 : Cal P w K mg base 5 "fold_answer" ["p", "number", "given"] (spDue [3, 4, 5] false)) (C2 : Cal P w K mg base 3 "point_answer" ["p", "q", "number", "given"] (spDue [6, 7, 8, 9, 10] true))
    (C3 : Cal P w K mg base 5 "order_answer" ["p", "number", "given"] (spDue [11, 12, 13, 14, 15, 16] false)) (C4 : Cal P w K mg base 2 "card_answer" ["p", "q", "number", "given"] (spDue [17, 18, 19] true)) :
    FnOk P w K mg base CX0 6 f fd ["session", "number", "given"] (spCall C) := by
  refine F.ok sc_call (fun vs H Q E h => ?_) (fun cdv A outer s H vs Q E hr h => ?_)
  · obtain ⟨a, g, st, c, gs, rfl, _⟩ := h
    rfl
  · obtain ⟨a, g, st, c, gs, rfl, hs, wf, hg, lc, k⟩ := h
    have hr1 : Room 1 _ := hr.mono (by decide)
    have hr2 : Room 2 _ := hr.mono (by decide)
    have hr3 : Room 3 _ := hr.mono (by decide)
    refine ⟨_, pss_cons (ps_if (pt_cmpR op_eq (pv 1) (pe_gi (by rfl) N.n0) (nomark _)) (pss_one (ps_ret (pe_mcal M1 T.cl hr2 (pv 0) (pa_cons (pe_ix ix_list (pv 2) pe_int (fun _ _ => rfl)) (pa_cons (pe_ix ix_list (pv 2) pe_int (fun _ _ => rfl)) pa_nil))))) pss_nil)
      (pss_cons (ps_if (pt_not (pt_val (pe_mcal0 M2 T.cl hr1 (pv 0)))) (pss_one (ps_ret (pe_lst (pa_cons (pe_gi (by rfl) N.nb) pa_nil)))) pss_nil)
      (pss_cons (ps_if (pt_cmpR op_eq (pv 1) (pe_gi (by rfl) N.n1) (nomark _)) (pss_one (ps_ret (pe_mcal0 M3 T.cl hr2 (pv 0)))) pss_nil)
      (pss_cons (ps_if (pt_cmpR op_eq (pv 1) (pe_gi (by rfl) N.n2) (nomark _)) (pss_one (ps_ret (pe_mcal0 M4 T.cl hr3 (pv 0)))) pss_nil)
      (pss_cons (ps_if (pt_cmpR op_eq (pv 1) (pe_gi (by rfl) N.n20) (nomark _)) (pss_one (ps_ret (pe_mcal0 M5 T.cl hr1 (pv 0)))) pss_nil)
      (pss_cons (ps_if (pt_cmpR op_in_seq (pv 1) (pe_tup (pa_cons (pe_gi (by rfl) N.n3) (pa_cons (pe_gi (by rfl) N.n4) (pa_cons (pe_gi (by rfl) N.n5) pa_nil)))) rfl) (pss_one (ps_ret (pe_cal C1 hr (by rfl) (pa_cons (pe_fld (pv 0) rfl) (pa_cons (pv 1) (pa_cons (pv 2) pa_nil)))))) pss_nil)
      (pss_cons (ps_if (pt_cmpR op_in_seq (pv 1) (pe_tup (pa_cons (pe_gi (by rfl) N.n6) (pa_cons (pe_gi (by rfl) N.n7) (pa_cons (pe_gi (by rfl) N.n8) (pa_cons (pe_gi (by rfl) N.n9) (pa_cons (pe_gi (by rfl) N.n10) pa_nil)))))) rfl)
        (pss_one (ps_ret (pe_cal C2 hr3 (by rfl) (pa_cons (pe_fld (pv 0) rfl) (pa_cons (pe_fld (pv 0) rfl) (pa_cons (pv 1) (pa_cons (pv 2) pa_nil))))))) pss_nil)
      (pss_cons (ps_if (pt_cmpR op_in_seq (pv 1) (pe_tup (pa_cons (pe_gi (by rfl) N.n11) (pa_cons (pe_gi (by rfl) N.n12) (pa_cons (pe_gi (by rfl) N.n13) (pa_cons (pe_gi (by rfl) N.n14) (pa_cons (pe_gi (by rfl) N.n15) (pa_cons (pe_gi (by rfl) N.n16) pa_nil))))))) rfl)
        (pss_one (ps_ret (pe_cal C3 hr (by rfl) (pa_cons (pe_fld (pv 0) rfl) (pa_cons (pv 1) (pa_cons (pv 2) pa_nil)))))) pss_nil)
      (pss_one (ps_ret (pe_cal C4 hr2 (by rfl) (pa_cons (pe_fld (pv 0) rfl) (pa_cons (pe_fld (pv 0) rfl) (pa_cons (pv 1) (pa_cons (pv 2) pa_nil))))))))))))))  , ?_⟩
    have no : ∀ {m : Str}, (m == ("p" : Str)) = false → (m == ("q" : Str)) = false → (sfs st).lookup m = none := fun {m} h1 h2 => by
      cases st with
      | none => exact sf_no _ _ h1 h2
      | some t => exact sf_no _ _ h1 h2
    by_cases hc0 : c = 0
    · subst hc0
      cases lc with
      | c0 x y hx hy =>
        obtain ⟨dx, hd⟩ := id hs
        refine ⟨_, rfl, rfl, _, rfl, eqT rfl ?_⟩
        exact ⟨_, rfl, a, dx, _, rfl, hd, no (by decide +kernel) (by decide +kernel), _, rfl, g, _, _, _, rfl, rfl, SqL.of hg, rfl, _, rfl, g, _, _, _, rfl, rfl, SqL.of hg, rfl, a, st, x, y, rfl, hs, k⟩
    refine ⟨_, rfl, rfl, _, rfl, eqF hc0 ?_⟩
    obtain ⟨dx, hd⟩ := id hs
    refine ⟨_, rfl, a, dx, _, rfl, hd, no (by decide +kernel) (by decide +kernel), a, st, rfl, hs, wf, _, rfl, ?_⟩
    cases st with
    | none =>
      rw [st_none lc hc0] at k
      exact iteT ⟨by show 1 ≤ sizeLine; decide, fun r hr => retS_new k hs (fun b o e _ => e) (fun _ z => z) hr rfl⟩
    | some t =>
    refine iteF ?_
    obtain ⟨p, q⟩ := t
    obtain ⟨w1, w2, w3⟩ := wf _ rfl
    have hd : H a = some (.ins C dx (sf p q)) := hd
    by_cases hc1 : c = 1
    · subst hc1
      cases lc
      refine ⟨_, rfl, rfl, _, rfl, eqT rfl ?_⟩
      exact ⟨_, rfl, a, dx, _, rfl, hd, no (by decide +kernel) (by decide +kernel), a, p, q, rfl, hs, k⟩
    refine ⟨_, rfl, rfl, _, rfl, eqF hc1 ?_⟩
    by_cases hc2 : c = 2
    · subst hc2
      cases lc
      refine ⟨_, rfl, rfl, _, rfl, eqT rfl ?_⟩
      exact ⟨_, rfl, a, dx, _, rfl, hd, no (by decide +kernel) (by decide +kernel), a, p, q, rfl, hs, okP_lt w2, k⟩
    refine ⟨_, rfl, rfl, _, rfl, eqF hc2 ?_⟩
    have still : (Kp299Neutral.step (some ⟨p, q⟩) [c :: gs]).1 = some ⟨p, q⟩ := by
      cases lc <;> first | rfl | exact absurd rfl hc0 | exact absurd rfl hc1 | exact absurd rfl hc2
    rw [still] at k
    have kl : RetL H Q (Kp299Neutral.step (some ⟨p, q⟩) [c :: gs]).2 := k.retL hs
    by_cases hc20 : c = 20
    · subst hc20
      cases lc
      rw [st_20] at kl
      refine ⟨_, rfl, rfl, _, rfl, eqT rfl ?_⟩
      exact ⟨_, rfl, a, dx, _, rfl, hd, no (by decide +kernel) (by decide +kernel), a, p, q, rfl, hs, kl⟩
    refine ⟨_, rfl, rfl, _, rfl, eqF hc20 ?_⟩
    -- fold, folds, foldedall
    refine ⟨_, rfl, by show 3 ≤ sizeLine; decide, fun t1 ht1 => ⟨t1, vI [3, 4, 5], rfl, .inr (SqT.of upd_same), rfl, rfl, _, rfl, ?_⟩⟩
    have s1 : Same H (upd H t1 (.tup [V.int 3, V.int 4, V.int 5])) := same_new (Same.refl _) ht1
    by_cases h345 : c ∈ ([3, 4, 5] : List Int)
    · refine inT (in_yes h345) ?_
      exact ⟨_, rfl, a, C, dx, _, _, rfl, s1 _ _ hd, T.cl, T.nP, sf_p _ _, _, rfl, _, rfl, p, q, c, g, gs, rfl, w1, w2, s1 _ _ hg, lc, h345, kl.weak s1⟩
    refine inF (in_no h345) ?_
    -- column, row, under, over, inside
    refine ⟨_, rfl, by show 5 ≤ sizeLine; decide, fun t2 ht2 => ⟨t2, vI [6, 7, 8, 9, 10], rfl, .inr (SqT.of upd_same), rfl, rfl, _, rfl, ?_⟩⟩
    have s2 := s1.trans (same_new (o := .tup [V.int 6, V.int 7, V.int 8, V.int 9, V.int 10]) (Same.refl _) ht2)
    by_cases h610 : c ∈ ([6, 7, 8, 9, 10] : List Int)
    · refine inT (in_yes h610) ?_
      exact ⟨_, rfl, a, C, dx, _, _, rfl, s2 _ _ hd, T.cl, T.nP, sf_p _ _, _, rfl, a, C, dx, _, _, rfl, s2 _ _ hd, T.cl, T.nQ, sf_q _ _, _, rfl, _, rfl, p, q, c, g, gs, rfl, w1, w2, s2 _ _ hg, lc, h610, kl.weak s2⟩
    refine inF (in_no h610) ?_
    -- place, where, pairs, long, fewest, round
    refine ⟨_, rfl, by show 6 ≤ sizeLine; decide, fun t3 ht3 => ⟨t3, vI [11, 12, 13, 14, 15, 16], rfl, .inr (SqT.of upd_same), rfl, rfl, _, rfl, ?_⟩⟩
    have s3 := s2.trans (same_new (o := .tup [V.int 11, V.int 12, V.int 13, V.int 14, V.int 15, V.int 16]) (Same.refl _) ht3)
    by_cases h1116 : c ∈ ([11, 12, 13, 14, 15, 16] : List Int)
    · refine inT (in_yes h1116) ?_
      exact ⟨_, rfl, a, C, dx, _, _, rfl, s3 _ _ hd, T.cl, T.nP, sf_p _ _, _, rfl, _, rfl, p, q, c, g, gs, rfl, w1, w2, s3 _ _ hg, lc, h1116, kl.weak s3⟩
    refine inF (in_no h1116) ?_
    -- dealt, dealtto, dealtpairs
    have hl : c ∈ ([17, 18, 19] : List Int) := by
      simp only [List.mem_cons, List.not_mem_nil, or_false] at h345 h610 h1116 ⊢
      cases lc <;> omega
    exact ⟨_, rfl, a, C, dx, _, _, rfl, s3 _ _ hd, T.cl, T.nP, sf_p _ _, _, rfl, a, C, dx, _, _, rfl, s3 _ _ hd, T.cl, T.nQ, sf_q _ _, _, rfl, _, rfl, p, q, c, g, gs, rfl, w1, w2, s3 _ _ hg, lc, hl, kl.weak s3⟩
end
end Bp

set_option Elab.async false
set_option linter.all false
set_option maxRecDepth 100000
set_option maxHeartbeats 2000000
namespace Bp
open PySem PySem.Spec PyProof.Rows L2
/-! ### what the top has written -/
section
variable {K : PySem.W.Frag}
/-- a def of the module -/
def FnIn (K : PySem.W.Frag) (x : Str) (st : Stmt) : Prop := ∃ (f : Addr) (fd : FuncData), Fun K x x st f fd ∧ PySem.W.nsIn K mainGlobals x = some (some (.ref f))
theorem fn_in {x : Str} {st : Stmt} {f : Addr} {oc : Value} {od an : Option Addr} {osl : Array (Option Value)} {kV doc pm cdv ct : Value} (a : PySem.W.nsIn K mainGlobals x = some (some (.ref f)))
    (l : K.lookup f = some ⟨oc, od, .func (PySem.W.fnOf x x (defArgs st) (defBody st) (defScope st) .none kV doc pm an cdv ct), osl⟩) (c : PySem.W.codeIn K cdv x = true) (k : PySem.W.keepIn K (.ref f) = true) : FnIn K x st := ⟨f, _, fun_mk l c k, a⟩
/-- a method -/
def MtIn (K : PySem.W.Frag) (C : Addr) (m qual : Str) (st : Stmt) : Prop := ∃ (f : Addr) (fd : FuncData), Fun K m qual st f fd ∧ Meth K C m f
theorem mt_in {C : Addr} {m qual : Str} {st : Stmt} {f : Addr} {oc : Value} {od an : Option Addr} {osl : Array (Option Value)} {kV doc pm cdv ct : Value} (a : PySem.W.findIn K (.ref C) m = some (some (.ref f)))
    (l : K.lookup f = some ⟨oc, od, .func (PySem.W.fnOf m qual (defArgs st) (defBody st) (defScope st) .none kV doc pm an cdv ct), osl⟩) (c : PySem.W.codeIn K cdv qual = true) (k : PySem.W.keepIn K (.ref f) = true) (i : PySem.W.isFn K (.ref f) = true) : MtIn K C m qual st :=
  ⟨f, _, fun_mk l c k, a, i, k⟩
/-- a whole number of the module -/
def NumIn (K : PySem.W.Frag) (x : Str) (i : Int) : Prop := ∃ t, PySem.W.nsIn K mainGlobals x = some (some (.int i t))
theorem num_in {x : Str} {i : Int} {t : Tok} (a : PySem.W.nsIn K mainGlobals x = some (some (.int i t))) : NumIn K x i := ⟨t, a⟩
theorem NumIn.g {h : Heap} {mg : Str → Option Value} {x : Str} {i : Int} (n : NumIn K x i) (X : K.In h) (G : h.Ns mainGlobals mg) : IntG mg x i := by
  obtain ⟨t, a⟩ := n
  exact ⟨t, PySem.W.mg_of X G a⟩
/-- a tuple of whole numbers of the module -/
def TupIn (K : PySem.W.Frag) (x : Str) (l : List Int) : Prop := ∃ ta, PySem.W.nsIn K mainGlobals x = some (some (.ref ta)) ∧ ∀ H, SqT K H ta (vI l)
theorem tup_in {x : Str} {l : List Int} {ta : Addr} {od : Option Addr} {its : Array Value} {n : Nat} {osl : Array (Option Value)} (a : PySem.W.nsIn K mainGlobals x = some (some (.ref ta))) (e : K.lookup ta = some ⟨.type "tuple", od, .seq its n, osl⟩)
    (v : its.toList.map absV = (vI l).map some) (z : its.size ≤ sizeLine) : TupIn K x l := ⟨ta, a, fun _ => .inr ⟨_, its, n, e, rfl, rfl, z, vals_of_abs v⟩⟩
theorem FnIn.cal {P : Program} {w : World} {mg : Str → Option Value} {base h : Heap} {x : Str} {st : Stmt} {k : Nat} {ps : List Str} {sp : Sp} (F : FnIn K x st) (X : K.In h) (G : h.Ns mainGlobals mg) (ok : ∀ {f : Addr} {fd : FuncData}, Fun K x x st f fd → FnOk P w K mg base CX0 k f fd ps sp)
    (b : ∀ (kV doc pm : Value) (an : Option Addr) (cdv ct : Value) (us : List Value), us.length = ps.length → bindArgs (PySem.W.fnOf x x (defArgs st) (defBody st) (defScope st) .none kV doc pm an cdv ct) ⟨us, []⟩ = pure (ps.zip us)) : Cal P w K mg base k x ps sp := by
  obtain ⟨f, fd, F, a⟩ := F
  exact ⟨f, fd, ok F, PySem.W.mg_of X G a, F.kp, F.binds b⟩
theorem MtIn.cal {P : Program} {w : World} {mg : Str → Option Value} {base : Heap} {C : Addr} {m qual : Str} {st : Stmt} {k : Nat} {ps : List Str} {sp : Sp} (F : MtIn K C m qual st) (ok : ∀ {f : Addr} {fd : FuncData}, Fun K m qual st f fd → FnOk P w K mg base CX0 k f fd ps sp)
    (b : ∀ (kV doc pm : Value) (an : Option Addr) (cdv ct : Value) (us : List Value), us.length = ps.length → bindArgs (PySem.W.fnOf m qual (defArgs st) (defBody st) (defScope st) .none kV doc pm an cdv ct) ⟨us, []⟩ = pure (ps.zip us)) : CalM P w K mg base k C m ps sp := by
  obtain ⟨f, fd, F, a⟩ := F
  exact ⟨f, fd, ok F, a, F.binds b⟩
/-- the class -/
structure ClsIn (K : PySem.W.Frag) (C : Addr) : Prop where
  at_ : PySem.W.nsIn K mainGlobals "Session" = some (some (.ref C))
  pg : PySem.W.plainGet K C Str.empty = true
  hd : PySem.W.hasDictIn K C = true
  po : PySem.W.plainOver K C = true
  sa : PySem.W.findIn K (.ref C) "__setattr__" = some (some (.builtin "object.__setattr__"))
  mks : PySem.W.makesIn K C = true
  kc : PySem.W.keepIn K (.ref C) = true
  nP : PySem.W.findIn K (.ref C) "p" = some none
  nQ : PySem.W.findIn K (.ref C) "q" = some none
end
end Bp
namespace Bp
open PySem PySem.Spec PyProof.Rows L2
structure AllIn (K : PySem.W.Frag) (C : Addr) : Prop where
  f_dealt : FnIn K "dealt" s_dealt
  f_dealt_pairs : FnIn K "dealt_pairs" s_dealt_pairs
  f_card_answer : FnIn K "card_answer" s_card_answer
  f_multiple : FnIn K "multiple" s_multiple
  f_multiples_to : FnIn K "multiples_to" s_multiples_to
  f_is_odd_prime : FnIn K "is_odd_prime" s_is_odd_prime
  f_prime_above : FnIn K "prime_above" s_prime_above
  f_half : FnIn K "half" s_half
  f_is_turned : FnIn K "is_turned" s_is_turned
  f_folded : FnIn K "folded" s_folded
  f_fold : FnIn K "fold" s_fold
  f_folds : FnIn K "folds" s_folds
  f_folded_all : FnIn K "folded_all" s_folded_all
  f_fold_answer : FnIn K "fold_answer" s_fold_answer
  f_place : FnIn K "place" s_place
  f_where : FnIn K "where" s_where
  f_pairs : FnIn K "pairs" s_pairs
  f_round_of : FnIn K "round_of" s_round_of
  f_long_and_many : FnIn K "long_and_many" s_long_and_many
  f_fewest : FnIn K "fewest" s_fewest
  f_whole_round : FnIn K "whole_round" s_whole_round
  f_order_answer : FnIn K "order_answer" s_order_answer
  f_under_at : FnIn K "under_at" s_under_at
  f_column : FnIn K "column" s_column
  f_under : FnIn K "under" s_under
  f_inside : FnIn K "inside" s_inside
  f_point_answer : FnIn K "point_answer" s_point_answer
  f_call_answer : FnIn K "call_answer" s_call_answer
  f_answers : FnIn K "answers" s_answers
  n_BEGIN : NumIn K "BEGIN" 0
  n_EXCHANGE : NumIn K "EXCHANGE" 1
  n_NEXT : NumIn K "NEXT" 2
  n_FOLD : NumIn K "FOLD" 3
  n_FOLDS : NumIn K "FOLDS" 4
  n_FOLDEDALL : NumIn K "FOLDEDALL" 5
  n_COLUMN : NumIn K "COLUMN" 6
  n_ROW : NumIn K "ROW" 7
  n_UNDER : NumIn K "UNDER" 8
  n_OVER : NumIn K "OVER" 9
  n_INSIDE : NumIn K "INSIDE" 10
  n_PLACE : NumIn K "PLACE" 11
  n_WHERE : NumIn K "WHERE" 12
  n_PAIRS : NumIn K "PAIRS" 13
  n_LONG : NumIn K "LONG" 14
  n_FEWEST : NumIn K "FEWEST" 15
  n_ROUND : NumIn K "ROUND" 16
  n_DEALT : NumIn K "DEALT" 17
  n_DEALTTO : NumIn K "DEALTTO" 18
  n_TOLD : NumIn K "TOLD" 20
  n_NOT_BEGUN : NumIn K "NOT_BEGUN" (-11)
  n_REFUSED : NumIn K "REFUSED" (-22)
  n_NO_NEXT : NumIn K "NO_NEXT" (-33)
  n_PRIMES_END : NumIn K "PRIMES_END" 200
  t_ARGUMENTS : TupIn K "ARGUMENTS" ARG
  b_range : PySem.W.nsIn K mainGlobals "range" = some none
  b_sum : PySem.W.nsIn K mainGlobals "sum" = some none
  b_len : PySem.W.nsIn K mainGlobals "len" = some none
  cl : ClsIn K C
  m_init : MtIn K C "__init__" "Session.__init__" s_Session_init
  m_begun : MtIn K C "begun" "Session.begun" s_Session_begun
  m_begin : MtIn K C "begin" "Session.begin" s_Session_begin
  m_told : MtIn K C "told" "Session.told" s_Session_told
  m_exchange : MtIn K C "exchange" "Session.exchange" s_Session_exchange
  m_move_on : MtIn K C "move_on" "Session.move_on" s_Session_move_on
section
variable {P : Program} {w : World} {K : PySem.W.Frag} {mg : Str → Option Value} {base h : Heap} {C : Addr}
theorem call_ok (X : K.In h) (G : h.Ns mainGlobals mg) (A : AllIn K C) : Cal P w K mg base 6 "call_answer" ["session", "number", "given"] (spCall C) := by
  have T : TxtS K C := ⟨⟨A.cl.pg, A.cl.hd, A.cl.po, A.cl.sa⟩, A.cl.nP, A.cl.nQ⟩
  have hX : IntG mg "REFUSED" (-22) := A.n_REFUSED.g X G
  have hE : IntG mg "PRIMES_END" 200 := A.n_PRIMES_END.g X G
  have hR : mg "range" = none := PySem.W.mg_none_of X G A.b_range
  have hS : mg "sum" = none := PySem.W.mg_none_of X G A.b_sum
  have CH : Cal P w K mg base 1 "half" ["prime"] spHalf := A.f_half.cal X G ok_half fun _ _ _ _ _ _ us hl => match us, hl with | [_], _ => rfl
  have CP : Cal P w K mg base 1 "is_odd_prime" ["n"] spPrime := A.f_is_odd_prime.cal X G (fun F => ok_prime F hE) fun _ _ _ _ _ _ us hl => match us, hl with | [_], _ => rfl
  have CA : Cal P w K mg base 2 "prime_above" ["n", "barred"] spAbove := A.f_prime_above.cal X G (fun F => ok_above F hE hR CP) fun _ _ _ _ _ _ us hl => match us, hl with | [_, _], _ => rfl
  have CT : Cal P w K mg base 2 "is_turned" ["p", "left"] spTurned := A.f_is_turned.cal X G (fun F => ok_turned F CH) fun _ _ _ _ _ _ us hl => match us, hl with | [_, _], _ => rfl
  have CF : Cal P w K mg base 3 "folded" ["p", "left"] spFolded := A.f_folded.cal X G (fun F => ok_folded F CT) fun _ _ _ _ _ _ us hl => match us, hl with | [_, _], _ => rfl
  have hL : mg "len" = none := PySem.W.mg_none_of X G A.b_len
  have CX : Cal P w K mg base 1 "multiple" ["p", "a", "k"] spMul := A.f_multiple.cal X G ok_mul fun _ _ _ _ _ _ us hl => match us, hl with | [_, _, _], _ => rfl
  have CM : Cal P w K mg base 2 "multiples_to" ["p", "a", "last"] spMulTo := A.f_multiples_to.cal X G (fun F => ok_multo F hR CX) fun _ _ _ _ _ _ us hl => match us, hl with | [_, _, _], _ => rfl
  have C1 : Cal P w K mg base 4 "fold" ["p", "a", "k"] spFold := A.f_fold.cal X G (fun F => ok_fold F hX CH CT CF CX) fun _ _ _ _ _ _ us hl => match us, hl with | [_, _, _], _ => rfl
  have C2 : Cal P w K mg base 3 "folds" ["p", "a"] spFolds := A.f_folds.cal X G (fun F => ok_folds F hS CT CH CM) fun _ _ _ _ _ _ us hl => match us, hl with | [_, _], _ => rfl
  have C3 : Cal P w K mg base 4 "folded_all" ["p", "a"] spFoldAll := A.f_folded_all.cal X G (fun F => ok_foldall F CH CF CM) fun _ _ _ _ _ _ us hl => match us, hl with | [_, _], _ => rfl
  have D1 : Cal P w K mg base 5 "fold_answer" ["p", "number", "given"] (spDue [3, 4, 5] false) := A.f_fold_answer.cal X G (fun F => ok_fans F hX (A.n_FOLD.g X G) (A.n_FOLDS.g X G) C1 C2 C3) fun _ _ _ _ _ _ us hl => match us, hl with | [_, _, _], _ => rfl
  have CU : Cal P w K mg base 1 "under_at" ["p", "q", "x"] spUnderAt := A.f_under_at.cal X G ok_underat fun _ _ _ _ _ _ us hl => match us, hl with | [_, _, _], _ => rfl
  have E1 : Cal P w K mg base 2 "column" ["p", "q", "k"] spColumn := A.f_column.cal X G (fun F => ok_column F hX CH CU) fun _ _ _ _ _ _ us hl => match us, hl with | [_, _, _], _ => rfl
  have E2 : Cal P w K mg base 2 "under" ["p", "q"] spUnder := A.f_under.cal X G (fun F => ok_under F hR hS CH CU) fun _ _ _ _ _ _ us hl => match us, hl with | [_, _], _ => rfl
  have E3 : Cal P w K mg base 2 "inside" ["p", "q", "x", "y"] spInside := A.f_inside.cal X G (fun F => ok_inside F hX CH) fun _ _ _ _ _ _ us hl => match us, hl with | [_, _, _, _], _ => rfl
  have D2 : Cal P w K mg base 3 "point_answer" ["p", "q", "number", "given"] (spDue [6, 7, 8, 9, 10] true) := A.f_point_answer.cal X G (fun F => ok_pans F (A.n_COLUMN.g X G) (A.n_ROW.g X G) (A.n_UNDER.g X G) (A.n_OVER.g X G) E1 E2 E3) fun _ _ _ _ _ _ us hl => match us, hl with | [_, _, _, _], _ => rfl
  have M1 : CalM P w K mg base 2 C "begin" ["self", "p", "q"] (spBegin C) := A.m_begin.cal (fun F => ok_begin F T hX CP) fun _ _ _ _ _ _ us hl => match us, hl with | [_, _, _], _ => rfl
  have M2 : CalM P w K mg base 1 C "begun" ["self"] (spBegun C) := A.m_begun.cal (fun F => ok_begun F T) fun _ _ _ _ _ _ us hl => match us, hl with | [_], _ => rfl
  have M5 : CalM P w K mg base 1 C "told" ["self"] (spTold C) := A.m_told.cal (fun F => ok_told F T) fun _ _ _ _ _ _ us hl => match us, hl with | [_], _ => rfl
  have M3 : CalM P w K mg base 2 C "exchange" ["self"] (spExchange C) := A.m_exchange.cal (fun F => ok_exchange F T M5) fun _ _ _ _ _ _ us hl => match us, hl with | [_], _ => rfl
  have M4 : CalM P w K mg base 3 C "move_on" ["self"] (spMove C) := A.m_move_on.cal (fun F => ok_move F T (A.n_NO_NEXT.g X G) CA) fun _ _ _ _ _ _ us hl => match us, hl with | [_], _ => rfl
  have O1 : Cal P w K mg base 2 "place" ["p", "a", "k"] spPlace := A.f_place.cal X G (fun F => ok_place F hX CX) fun _ _ _ _ _ _ us hl => match us, hl with | [_, _, _], _ => rfl
  have O2 : Cal P w K mg base 3 "where" ["p", "a", "b"] spWhere := A.f_where.cal X G (fun F => ok_where F hX CM) fun _ _ _ _ _ _ us hl => match us, hl with | [_, _, _], _ => rfl
  have O3 : Cal P w K mg base 3 "pairs" ["p", "a"] spPairs := A.f_pairs.cal X G (fun F => ok_pairs F hR CM) fun _ _ _ _ _ _ us hl => match us, hl with | [_, _], _ => rfl
  have OR : Cal P w K mg base 2 "round_of" ["p", "a", "start"] spRound := A.f_round_of.cal X G (fun F => ok_round F CX) fun _ _ _ _ _ _ us hl => match us, hl with | [_, _, _], _ => rfl
  have O4 : Cal P w K mg base 3 "long_and_many" ["p", "a"] spLong := A.f_long_and_many.cal X G (fun F => ok_long F hL OR) fun _ _ _ _ _ _ us hl => match us, hl with | [_, _], _ => rfl
  have O5 : Cal P w K mg base 4 "fewest" ["p", "a"] spFewest := A.f_fewest.cal X G (fun F => ok_fewest F O4) fun _ _ _ _ _ _ us hl => match us, hl with | [_, _], _ => rfl
  have O6 : Cal P w K mg base 3 "whole_round" ["p", "a", "k"] spWhole := A.f_whole_round.cal X G (fun F => ok_whole F hX hL OR) fun _ _ _ _ _ _ us hl => match us, hl with | [_, _, _], _ => rfl
  have D3 : Cal P w K mg base 5 "order_answer" ["p", "number", "given"] (spDue [11, 12, 13, 14, 15, 16] false) := A.f_order_answer.cal X G (fun F => ok_oans F hX (A.n_PLACE.g X G) (A.n_WHERE.g X G) (A.n_PAIRS.g X G) (A.n_LONG.g X G) (A.n_FEWEST.g X G) O1 O2 O3 O4 O5 O6) fun _ _ _ _ _ _ us hl => match us, hl with | [_, _, _], _ => rfl
  have K1 : Cal P w K mg base 1 "dealt" ["rows", "columns", "i"] spDealt := A.f_dealt.cal X G (fun F => ok_dealt F hX) fun _ _ _ _ _ _ us hl => match us, hl with | [_, _, _], _ => rfl
  have K2 : Cal P w K mg base 1 "dealt_pairs" ["rows", "columns"] spDealtPairs := A.f_dealt_pairs.cal X G ok_dealtp fun _ _ _ _ _ _ us hl => match us, hl with | [_, _], _ => rfl
  have D4 : Cal P w K mg base 2 "card_answer" ["p", "q", "number", "given"] (spDue [17, 18, 19] true) := A.f_card_answer.cal X G (fun F => ok_cans F (A.n_DEALT.g X G) (A.n_DEALTTO.g X G) K1 K2) fun _ _ _ _ _ _ us hl => match us, hl with | [_, _, _, _], _ => rfl
  have N : TxtN mg := ⟨A.n_BEGIN.g X G, A.n_EXCHANGE.g X G, A.n_NEXT.g X G, A.n_FOLD.g X G, A.n_FOLDS.g X G, A.n_FOLDEDALL.g X G, A.n_COLUMN.g X G, A.n_ROW.g X G, A.n_UNDER.g X G, A.n_OVER.g X G, A.n_INSIDE.g X G, A.n_PLACE.g X G, A.n_WHERE.g X G, A.n_PAIRS.g X G, A.n_LONG.g X G, A.n_FEWEST.g X G, A.n_ROUND.g X G, A.n_TOLD.g X G, A.n_NOT_BEGUN.g X G⟩
  exact A.f_call_answer.cal X G (fun F => ok_call F T N M1 M2 M3 M4 M5 D1 D2 D3 D4) fun _ _ _ _ _ _ us hl => match us, hl with | [_, _, _], _ => rfl
theorem all_mk {fa : Addr} (X : K.In h) (G : h.Ns mainGlobals mg) (hfa : mg "answers" = some (.ref fa)) (A : AllIn K C) (hcall : ∀ base, Cal P w K mg base 6 "call_answer" ["session", "number", "given"] (spCall C)) :
    ∃ fd : FuncData, (∀ (s : Shared) (us : List Value), us.length = (["calls"] : List Str).length → BindsTo s fd ⟨us, []⟩ ((["calls"] : List Str).zip us)) ∧ ∀ base : Heap, K.In base → base.Ns mainGlobals mg → FnOk P w K mg base CX0 8 fa fd ["calls"] (spAns K) := by
  have T : TxtS K C := ⟨⟨A.cl.pg, A.cl.hd, A.cl.po, A.cl.sa⟩, A.cl.nP, A.cl.nQ⟩
  obtain ⟨fi, fdi, FI, mi⟩ := A.m_init
  have bI := FI.binds (ps := ["self"]) fun _ _ _ _ _ _ us hl => match us, hl with | [_], _ => rfl
  obtain ⟨ta, ha, ht⟩ := A.t_ARGUMENTS
  obtain ⟨f, fd, F, a⟩ := A.f_answers
  have e := hfa.symm.trans (PySem.W.mg_of X G a)
  cases e
  refine ⟨fd, ?_, fun base _ _ => ok_answers (by decide) F T ⟨A.cl.mks, mi.at_, mi.fn, A.cl.kc⟩ FI bI (PySem.W.mg_of X G A.cl.at_) (PySem.W.mg_none_of X G A.b_len) (PySem.W.mg_of X G ha) ht (hcall base)⟩
  obtain ⟨oc, od, kV, doc, pm, an, cdv, ct, osl, rfl, lk, hcd⟩ := F.ex
  exact fun s us hu => match us, hu with | [_], _ => .of_eq rfl
end
end Bp

set_option Elab.async false
set_option linter.all false
set_option maxRecDepth 100000
set_option maxHeartbeats 2000000
open PySem PySem.W PyProof.Rows
set_option maxRecDepth 100000 in
set_option maxHeartbeats 0 in
theorem PySem.Challenge.cw_betweenprimes_s01_answers_holds : PySem.Challenge.rw_betweenprimes_s01_answers.Holds := by
  w_on; k_headS; (case hw => exact ⟨[.list [.int 1]], by decide +kernel, by decide +kernel⟩)
  k_fillS
  refine L2.walk_specK (r := PySem.Challenge.rw_betweenprimes_s01_answers) (k := 8) (CX := L2.CX0) (ps := ["calls"]) (sp := Bp.spAns) (by decide +kernel) rfl rfl ⟨rfl, by decide, by decide⟩ (fun w h Y => PySem.W.kIn_of Y) ?F ?S (fun _ _ _ _ z => z)
  case F =>
    intro w mg fa h Y KX G hmg
    have A : ∃ C, Bp.AllIn (L2.KOf KX) C := by
      dsimp only [L2.KOf]
      refine' ⟨?C, ?f_dealt, ?f_dealt_pairs, ?f_card_answer, ?f_multiple, ?f_multiples_to, ?f_is_odd_prime, ?f_prime_above, ?f_half, ?f_is_turned, ?f_folded, ?f_fold, ?f_folds, ?f_folded_all, ?f_fold_answer, ?f_place, ?f_where, ?f_pairs, ?f_round_of, ?f_long_and_many, ?f_fewest, ?f_whole_round, ?f_order_answer, ?f_under_at, ?f_column, ?f_under, ?f_inside, ?f_point_answer, ?f_call_answer, ?f_answers, ?n_BEGIN, ?n_EXCHANGE, ?n_NEXT, ?n_FOLD, ?n_FOLDS, ?n_FOLDEDALL, ?n_COLUMN, ?n_ROW, ?n_UNDER, ?n_OVER, ?n_INSIDE, ?n_PLACE, ?n_WHERE, ?n_PAIRS, ?n_LONG, ?n_FEWEST, ?n_ROUND, ?n_DEALT, ?n_DEALTTO, ?n_TOLD, ?n_NOT_BEGUN, ?n_REFUSED, ?n_NO_NEXT, ?n_PRIMES_END, ?t_ARGUMENTS, ?b_range, ?b_sum, ?b_len, ?cl, ?m_init, ?m_begun, ?m_begin, ?m_told, ?m_exchange, ?m_move_on⟩
      case cl =>
        refine' ⟨?at_, ?pg, ?hd, ?po, ?sa, ?mk, ?kc, ?nP, ?nQ⟩
        (case at_ => k_is)
        (case pg => k_is)
        (case hd => k_is)
        (case po => k_is)
        (case sa => k_is)
        (case mk => k_is)
        (case kc => k_is)
        (case nP => k_is)
        (case nQ => k_is)
      case m_init =>
        refine' Bp.mt_in ?a ?l ?c ?k ?i
        (case a => k_is)
        (case l => k_is)
        (case c => k_is)
        (case k => k_is)
        (case i => k_is)
      case m_begun =>
        refine' Bp.mt_in ?a ?l ?c ?k ?i
        (case a => k_is)
        (case l => k_is)
        (case c => k_is)
        (case k => k_is)
        (case i => k_is)
      case m_begin =>
        refine' Bp.mt_in ?a ?l ?c ?k ?i
        (case a => k_is)
        (case l => k_is)
        (case c => k_is)
        (case k => k_is)
        (case i => k_is)
      case m_told =>
        refine' Bp.mt_in ?a ?l ?c ?k ?i
        (case a => k_is)
        (case l => k_is)
        (case c => k_is)
        (case k => k_is)
        (case i => k_is)
      case m_exchange =>
        refine' Bp.mt_in ?a ?l ?c ?k ?i
        (case a => k_is)
        (case l => k_is)
        (case c => k_is)
        (case k => k_is)
        (case i => k_is)
      case m_move_on =>
        refine' Bp.mt_in ?a ?l ?c ?k ?i
        (case a => k_is)
        (case l => k_is)
        (case c => k_is)
        (case k => k_is)
        (case i => k_is)
      case f_dealt =>
        refine' Bp.fn_in ?a ?l ?c ?k
        (case a => k_is)
        (case l => k_is)
        (case c => k_is)
        (case k => k_is)
      case f_dealt_pairs =>
        refine' Bp.fn_in ?a ?l ?c ?k
        (case a => k_is)
        (case l => k_is)
        (case c => k_is)
        (case k => k_is)
      case f_card_answer =>
        refine' Bp.fn_in ?a ?l ?c ?k
        (case a => k_is)
        (case l => k_is)
        (case c => k_is)
        (case k => k_is)
      case f_multiple =>
        refine' Bp.fn_in ?a ?l ?c ?k
        (case a => k_is)
        (case l => k_is)
        (case c => k_is)
        (case k => k_is)
      case f_multiples_to =>
        refine' Bp.fn_in ?a ?l ?c ?k
        (case a => k_is)
        (case l => k_is)
        (case c => k_is)
        (case k => k_is)
      case f_is_odd_prime =>
        refine' Bp.fn_in ?a ?l ?c ?k
        (case a => k_is)
        (case l => k_is)
        (case c => k_is)
        (case k => k_is)
      case f_prime_above =>
        refine' Bp.fn_in ?a ?l ?c ?k
        (case a => k_is)
        (case l => k_is)
        (case c => k_is)
        (case k => k_is)
      case f_half =>
        refine' Bp.fn_in ?a ?l ?c ?k
        (case a => k_is)
        (case l => k_is)
        (case c => k_is)
        (case k => k_is)
      case f_is_turned =>
        refine' Bp.fn_in ?a ?l ?c ?k
        (case a => k_is)
        (case l => k_is)
        (case c => k_is)
        (case k => k_is)
      case f_folded =>
        refine' Bp.fn_in ?a ?l ?c ?k
        (case a => k_is)
        (case l => k_is)
        (case c => k_is)
        (case k => k_is)
      case f_fold =>
        refine' Bp.fn_in ?a ?l ?c ?k
        (case a => k_is)
        (case l => k_is)
        (case c => k_is)
        (case k => k_is)
      case f_folds =>
        refine' Bp.fn_in ?a ?l ?c ?k
        (case a => k_is)
        (case l => k_is)
        (case c => k_is)
        (case k => k_is)
      case f_folded_all =>
        refine' Bp.fn_in ?a ?l ?c ?k
        (case a => k_is)
        (case l => k_is)
        (case c => k_is)
        (case k => k_is)
      case f_fold_answer =>
        refine' Bp.fn_in ?a ?l ?c ?k
        (case a => k_is)
        (case l => k_is)
        (case c => k_is)
        (case k => k_is)
      case f_place =>
        refine' Bp.fn_in ?a ?l ?c ?k
        (case a => k_is)
        (case l => k_is)
        (case c => k_is)
        (case k => k_is)
      case f_where =>
        refine' Bp.fn_in ?a ?l ?c ?k
        (case a => k_is)
        (case l => k_is)
        (case c => k_is)
        (case k => k_is)
      case f_pairs =>
        refine' Bp.fn_in ?a ?l ?c ?k
        (case a => k_is)
        (case l => k_is)
        (case c => k_is)
        (case k => k_is)
      case f_round_of =>
        refine' Bp.fn_in ?a ?l ?c ?k
        (case a => k_is)
        (case l => k_is)
        (case c => k_is)
        (case k => k_is)
      case f_long_and_many =>
        refine' Bp.fn_in ?a ?l ?c ?k
        (case a => k_is)
        (case l => k_is)
        (case c => k_is)
        (case k => k_is)
      case f_fewest =>
        refine' Bp.fn_in ?a ?l ?c ?k
        (case a => k_is)
        (case l => k_is)
        (case c => k_is)
        (case k => k_is)
      case f_whole_round =>
        refine' Bp.fn_in ?a ?l ?c ?k
        (case a => k_is)
        (case l => k_is)
        (case c => k_is)
        (case k => k_is)
      case f_order_answer =>
        refine' Bp.fn_in ?a ?l ?c ?k
        (case a => k_is)
        (case l => k_is)
        (case c => k_is)
        (case k => k_is)
      case f_under_at =>
        refine' Bp.fn_in ?a ?l ?c ?k
        (case a => k_is)
        (case l => k_is)
        (case c => k_is)
        (case k => k_is)
      case f_column =>
        refine' Bp.fn_in ?a ?l ?c ?k
        (case a => k_is)
        (case l => k_is)
        (case c => k_is)
        (case k => k_is)
      case f_under =>
        refine' Bp.fn_in ?a ?l ?c ?k
        (case a => k_is)
        (case l => k_is)
        (case c => k_is)
        (case k => k_is)
      case f_inside =>
        refine' Bp.fn_in ?a ?l ?c ?k
        (case a => k_is)
        (case l => k_is)
        (case c => k_is)
        (case k => k_is)
      case f_point_answer =>
        refine' Bp.fn_in ?a ?l ?c ?k
        (case a => k_is)
        (case l => k_is)
        (case c => k_is)
        (case k => k_is)
      case f_call_answer =>
        refine' Bp.fn_in ?a ?l ?c ?k
        (case a => k_is)
        (case l => k_is)
        (case c => k_is)
        (case k => k_is)
      case f_answers =>
        refine' Bp.fn_in ?a ?l ?c ?k
        (case a => k_is)
        (case l => k_is)
        (case c => k_is)
        (case k => k_is)
      case n_BEGIN =>
        refine' Bp.num_in ?a
        (case a => k_is)
      case n_EXCHANGE =>
        refine' Bp.num_in ?a
        (case a => k_is)
      case n_NEXT =>
        refine' Bp.num_in ?a
        (case a => k_is)
      case n_FOLD =>
        refine' Bp.num_in ?a
        (case a => k_is)
      case n_FOLDS =>
        refine' Bp.num_in ?a
        (case a => k_is)
      case n_FOLDEDALL =>
        refine' Bp.num_in ?a
        (case a => k_is)
      case n_COLUMN =>
        refine' Bp.num_in ?a
        (case a => k_is)
      case n_ROW =>
        refine' Bp.num_in ?a
        (case a => k_is)
      case n_UNDER =>
        refine' Bp.num_in ?a
        (case a => k_is)
      case n_OVER =>
        refine' Bp.num_in ?a
        (case a => k_is)
      case n_INSIDE =>
        refine' Bp.num_in ?a
        (case a => k_is)
      case n_PLACE =>
        refine' Bp.num_in ?a
        (case a => k_is)
      case n_WHERE =>
        refine' Bp.num_in ?a
        (case a => k_is)
      case n_PAIRS =>
        refine' Bp.num_in ?a
        (case a => k_is)
      case n_LONG =>
        refine' Bp.num_in ?a
        (case a => k_is)
      case n_FEWEST =>
        refine' Bp.num_in ?a
        (case a => k_is)
      case n_ROUND =>
        refine' Bp.num_in ?a
        (case a => k_is)
      case n_DEALT =>
        refine' Bp.num_in ?a
        (case a => k_is)
      case n_DEALTTO =>
        refine' Bp.num_in ?a
        (case a => k_is)
      case n_TOLD =>
        refine' Bp.num_in ?a
        (case a => k_is)
      case n_NOT_BEGUN =>
        refine' Bp.num_in ?a
        (case a => k_is)
      case n_REFUSED =>
        refine' Bp.num_in ?a
        (case a => k_is)
      case n_NO_NEXT =>
        refine' Bp.num_in ?a
        (case a => k_is)
      case n_PRIMES_END =>
        refine' Bp.num_in ?a
        (case a => k_is)
      case t_ARGUMENTS =>
        refine' Bp.tup_in ?a ?e ?v ?z
        (case a => k_is); (case e => k_is); (case v => rfl); (case z => decide)
      case b_range => k_is
      case b_sum => k_is
      case b_len => k_is
    obtain ⟨C, A⟩ := A
    exact Bp.all_mk KX G hmg A (fun base => Bp.call_ok KX G A)
  case S =>
    intro K H xs a hO hwi hask hx
    cases hx with
    | cons h1 h2 =>
      cases h2
      cases h1 with
      | lst hs ha =>
        have e := L2.ints_dw a.1 _ ha
        subst e
        have q : ((Codec.inLen 0 500 a.1 && a.1.all (Codec.inInt 0 4294967295)) && true) = true := hwi
        rw [Bool.and_eq_true, Bool.and_eq_true] at q
        refine ⟨_, a.1, rfl, hs, (Codec.inNat_iff.mp q.1.1).2, fun x hx => ?_, hask, fun H' p hp => .lst (L2.SqL.of hp) (L2.dw_ints _)⟩
        have z := List.all_eq_true.mp q.1.2 x hx
        exact Codec.inInt_iff.mp z
#print axioms PySem.Challenge.cw_betweenprimes_s01_answers_holds
