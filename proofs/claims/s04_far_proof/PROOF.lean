import PyProof.Rows.All
import Wide.All
import OpenK.AllK
import Wide.FinOn
import PyProof.EqAt
import PyProof.EqKinds
import PyProof.TupleCall
import KE.BitLaws
import Open.SpecLaws
import KE.OsHead
import KE.OsGo
import PySem.Challenge.RW_hedgeways_s04_far
section
set_option Elab.async false
set_option linter.all false
set_option maxRecDepth 100000
/-! THE HAND LAYER, for ints, bools, texts, own classes, lists, tuples, dicts, comprehensions, walks over dicts, enumerate, zip, reversed, texts, calls, loops. Paste it whole ahead of your own text; what your proof does not reach may be deleted. -/
namespace L2
open PySem PySem.Spec PyProof.Rows

/-- a key: an int or a str -/
abbrev Key := Sum Int Str
def keyIs : Key → Value → Bool
  | .inl k, v => Value.isInt k v
  | .inr x, v => Value.isStrOf x v
def keyH (w : World) : Key → Int
  | .inl k => hashInt k
  | .inr x => hashStr w x
theorem keyIs_shape : ∀ {k : Key} {v : Value}, keyIs k v = true → (∃ i t, k = Sum.inl i ∧ v = Value.int i t) ∨ (∃ x t, k = Sum.inr x ∧ v = Value.str x t)
  | .inl i, v, h => by
    obtain ⟨t, e⟩ := Value.isInt_shape (k := i) (v := v) h
    exact .inl ⟨i, t, rfl, e⟩
  | .inr x, v, h => by
    obtain ⟨t, e⟩ := Value.isStrOf_shape (x := x) (v := v) h
    exact .inr ⟨x, t, rfl, e⟩
theorem key_ll (a b : Int) : decide ((Sum.inl a : Key) = Sum.inl b) = (a == b) := by
  by_cases e : a = b
  · subst e; simp
  · have h : ¬ (Sum.inl a : Key) = Sum.inl b := fun q => e (Sum.inl.inj q)
    rw [decide_eq_false h]
    exact (beq_eq_false_iff_ne.mpr e).symm
theorem key_rr (a b : Str) : decide ((Sum.inr a : Key) = Sum.inr b) = decide (a = b) := by
  by_cases e : a = b
  · subst e; simp
  · have h : ¬ (Sum.inr a : Key) = Sum.inr b := fun q => e (Sum.inr.inj q)
    rw [decide_eq_false h, decide_eq_false e]
theorem key_lr (a : Int) (b : Str) : decide ((Sum.inl a : Key) = Sum.inr b) = false := decide_eq_false (fun q => nomatch q)
theorem key_rl (a : Str) (b : Int) : decide ((Sum.inr a : Key) = Sum.inl b) = false := decide_eq_false (fun q => nomatch q)

def mixKind (prog : Program) (w : World) : PySem.KeyKind prog w Key where
  is := keyIs
  hash := keyH w
  inj := fun v a b ha hb => by
    rcases keyIs_shape ha with ⟨i, t, rfl, rfl⟩ | ⟨x, t, rfl, rfl⟩
    · rcases keyIs_shape hb with ⟨j, u, rfl, e⟩ | ⟨y, u, rfl, e⟩
      · injection e with e1 _; rw [e1]
      · exact nomatch e
    · rcases keyIs_shape hb with ⟨j, u, rfl, e⟩ | ⟨y, u, rfl, e⟩
      · exact nomatch e
      · injection e with e1 _; rw [e1]
  byValue := fun k v h => by
    rcases keyIs_shape h with ⟨i, t, rfl, rfl⟩ | ⟨x, t, rfl, rfl⟩ <;> rfl
  pyHash := fun hv h => by
    rcases keyIs_shape hv with ⟨i, t, rfl, rfl⟩ | ⟨x, t, rfl, rfl⟩
    · exact wpAny_pyHash_int h
    · exact wpAny_pyHash_str h
  eqBool := fun hu hv h => by
    rcases keyIs_shape hu with ⟨i, t, rfl, rfl⟩ | ⟨x, t, rfl, rfl⟩
    · rcases keyIs_shape hv with ⟨j, u, rfl, rfl⟩ | ⟨y, u, rfl, rfl⟩
      · rw [key_ll] at h; exact wpAny_eqBool_int h
      · rw [key_lr] at h; exact SeqAt.EqAt.int_str i t y u _ _ _ _ h
    · rcases keyIs_shape hv with ⟨j, u, rfl, rfl⟩ | ⟨y, u, rfl, rfl⟩
      · rw [key_rl] at h; exact SeqAt.EqAt.str_int x t j u _ _ _ _ h
      · rw [key_rr] at h; exact wpAny_eqBool_str h
  «strs» := fun k x t v h => by
    rcases keyIs_shape h with ⟨i, u, rfl, e⟩ | ⟨y, u, rfl, e⟩
    · exact nomatch e
    · injection e with e1 _
      subst e1
      cases v <;> rfl

end L2

namespace L2
open PySem PySem.Spec PyProof.Rows

/-- a value, without the heap -/
inductive V where
  | non | bl (b : Bool) | int (i : Int) | str (x : Str) | byt (b : Array UInt8) | flt (b : UInt64) | ref (a : Addr) | ty (n : String)
  deriving DecidableEq

def RelV : V → Value → Prop
  | .non, u => u = Value.none
  | .bl b, u => u = Value.bool b
  | .int i, u => ∃ t, u = Value.int i t
  | .str x, u => ∃ t, u = Value.str x t
  | .byt b, u => ∃ t, u = Value.bytes b t
  | .flt b, u => ∃ t, u = Value.float b t
  | .ref a, u => u = Value.ref a
  | .ty n, u => u = Value.type n

abbrev Vals : List V → List Value → Prop := Paired RelV
theorem Vals.length {xs : List V} {us : List Value} (r : Vals xs us) : xs.length = us.length := Paired.length r
theorem Vals.get : ∀ {xs : List V} {us : List Value} {i : Nat} {x : V}, Vals xs us → xs[i]? = some x → ∃ u, us[i]? = some u ∧ RelV x u
  | _, _, _, _, .nil, e => by simp at e
  | _, _, 0, _, .cons r _, e => by simp at e; subst e; exact ⟨_, rfl, r⟩
  | _, _, i + 1, x, .cons _ t, e => by
    obtain ⟨u, h1, h2⟩ := Vals.get (i := i) (x := x) t (by simpa using e)
    exact ⟨u, by simpa using h1, h2⟩
theorem Vals.set {x : V} {u : Value} (r : RelV x u) : ∀ {xs : List V} {us : List Value} (i : Nat), Vals xs us → Vals (xs.set i x) (us.set i u)
  | _, _, _, .nil => .nil
  | _, _, 0, .cons _ t => .cons r t
  | _, _, i + 1, .cons q t => .cons q (Vals.set r i t)
theorem Vals.append : ∀ {xs ys : List V} {us ws : List Value}, Vals xs us → Vals ys ws → Vals (xs ++ ys) (us ++ ws)
  | _, _, _, _, .nil, s => s
  | _, _, _, _, .cons r t, s => .cons r (Vals.append t s)

def RelO : Option V → Option Value → Prop
  | some v, some u => RelV v u
  | none, none => True
  | _, _ => False
def KV {κ : Type} : List (κ × V) → List (κ × Value) → Prop := Paired fun (p : κ × V) (q : κ × Value) => p.1 = q.1 ∧ RelV p.2 q.2

/-- a key of a dict (00_mix): an int or a text -/
def kV : Key → V
  | .inl i => .int i
  | .inr x => .str x

/-- what stands at a tracked address -/
inductive HO where
  /-- a list -/
  | lst (xs : List V)
  /-- a tuple (never changes) -/
  | tup (xs : List V)
  /-- a dict whose keys are ints and texts; one whose keys are tuples of ints and texts (the empty one is both) -/
  | dK (kvs : List (Key × V)) | dT (kvs : List (List Key × V))
  /-- a set of ints: its members, its size -/
  | set (S : Int → Bool) (n : Nat)
  /-- an instance of the class at C, its dict at dx, its attributes -/
  | ins (C dx : Addr) (fs : List (Str × V))
  /-- the dict of the instance at x -/
  | own (x : Addr)
  /-- the dict of an exception -/
  | xd (fs : List (Str × V))
  /-- a bound method, f of x -/
  | met (f x : Addr)
  /-- a range object lo, lo + 1, .. below hi -/
  | rng (lo hi : Int)
  /-- a thing that is known to the object (the script; a dict while a loop walks it): read, never written while it is so -/
  | frz (o : Obj) (u : HO)
  /-- a code object's table -/
  | tbl (ps : Array Value)
  /-- any other thing, by what is true of its one object (a def of one's own: SetO a S n := HO.ext fun h => ..) -/
  | ext (φ : Heap → Prop)

abbrev Hp := Addr → Option HO
def upd (H : Hp) (a : Addr) (o : HO) : Hp := fun b => if b = a then some o else H b
theorem upd_same {H : Hp} {a : Addr} {o : HO} : upd H a o a = some o := by unfold upd; rw [if_pos rfl]
theorem upd_ne {H : Hp} {a b : Addr} {o : HO} (h : b ≠ a) : upd H a o b = H b := by unfold upd; rw [if_neg h]
/-- two objects of different content stand apart -/
theorem ne_of {H : Hp} {a b : Addr} {o u : HO} (h : H a = some o) (h' : H b = some u) (d : o ≠ u) : a ≠ b := by
  intro e; subst e; rw [h] at h'; exact d (Option.some.inj h')
theorem ne_of_none {H : Hp} {a b : Addr} {o : HO} (h : H a = some o) (h' : H b = none) : a ≠ b := by
  intro e; subst e; rw [h] at h'; cases h'

section
variable (P : Program) (w : World)
def ObjOk (H : Hp) (h : Heap) (a : Addr) : HO → Prop
  | .lst xs => xs.length ≤ sizeLine ∧ ∃ (its : List Value) (n : Nat), Vals xs its ∧ h.get? a = some { cls := .type "list", data := .seq its.toArray n }
  | .tup xs => xs.length ≤ sizeLine ∧ ∃ its : List Value, Vals xs its ∧ IsTup h a its.toArray
  | .dK kvs => kvs.length ≤ sizeLine ∧ (a == sysModules) = false ∧ ∃ vs, KV kvs vs ∧ h.DictOf (mixKind P w) a vs
  | .dT kvs => kvs.length ≤ sizeLine ∧ (a == sysModules) = false ∧ ∃ xs : List (List Key × Addr × Value),
      Paired (fun (p : List Key × V) (q : List Key × Addr × Value) => p.1 = q.1 ∧ H q.2.1 = some (.tup (p.1.map kV)) ∧ RelV p.2 q.2.2) kvs xs ∧
      ∃ o es ep, h.get? a = some o ∧ o.ExactDict ∧ o.data = .dict es ep ∧ es.toList = xs.map (entryOfKey (tupleKind (mixKind P w))) ∧ (xs.map (·.1)).Nodup
  | .set S n => h.SetOf (intKind P w) a S n
  | .ins C dx fs => H dx = some (.own a) ∧ fs.length ≤ 1000 ∧ dx ≠ a ∧ h.get? a = some (PySem.W.instObj C dx) ∧
      ∃ mA, h.Ns1 dx mA ∧ (∀ f, RelO (fs.lookup f) (mA f)) ∧ PySem.Within mA (fs.map (·.1))
  | .own _ => ∃ o, h.get? a = some o
  | .xd fs => ∃ mA, h.Ns1 a mA ∧ ∀ f, RelO (fs.lookup f) (mA f)
  | .rng lo hi => ∃ t u v, h.get? a = some { cls := .type "range", data := .fields #[.int lo t, .int hi u, .int 1 v] }
  | .frz o u => h.get? a = some o ∧ ObjOk H h a u
  | .tbl ps => h.get? a = some { cls := .none, data := .fields ps }
  | .met f x => h.get? a = some (PySem.W.methodObj (.ref f) (.ref x))
  | .ext φ => φ h ∧ (∃ o, h.get? a = some o) ∧ ∀ h1 h2 : Heap, φ h1 → (∀ o, h1.get? a = some o → h2.get? a = some o) → φ h2
/-- the abstract heap is held -/
def HOk (H : Hp) (h : Heap) : Prop := ∀ a o, H a = some o → ObjOk P w H h a o
end

section
variable {P : Program} {w : World} {H H' : Hp} {h h' : Heap} {a : Addr} {o : HO}
theorem ObjOk.lt (x : ObjOk P w H h a o) : a < h.objs.size := by
  cases o with
  | lst xs => obtain ⟨_, _, _, _, e⟩ := x; exact Heap.lt_size e
  | tup xs => obtain ⟨_, _, _, p⟩ := x; exact p.lt
  | dK kvs => obtain ⟨_, _, _, _, o, _, _, e, _⟩ := x; exact Heap.lt_size e
  | dT kvs => obtain ⟨_, _, _, _, o, _, _, e, _⟩ := x; exact Heap.lt_size e
  | set S n => obtain ⟨o, _, _, _, e, _⟩ := x; exact Heap.lt_size e
  | ins C dx fs => obtain ⟨_, _, _, e, _⟩ := x; exact Heap.lt_size e
  | own y => obtain ⟨_, e⟩ := x; exact Heap.lt_size e
  | xd fs => obtain ⟨_, ⟨_, _, _, e, _⟩, _⟩ := x; exact Heap.lt_size e
  | rng lo hi => obtain ⟨_, _, _, e⟩ := x; exact Heap.lt_size e
  | frz ob u => obtain ⟨e, _⟩ := x; exact Heap.lt_size e
  | tbl ps => exact Heap.lt_size (show h.get? a = some _ from x)
  | met f y => exact Heap.lt_size (show h.get? a = some _ from x)
  | ext φ => obtain ⟨_, ⟨_, e⟩, _⟩ := x; exact Heap.lt_size e
theorem Paired.mapP {α β : Type} {F G : α → β → Prop} : ∀ {l₁ : List α} {l₂ : List β}, Paired F l₁ l₂ → (∀ a b, F a b → G a b) → Paired G l₁ l₂
  | _, _, .nil, _ => .nil
  | _, _, .cons r t, f => .cons (f _ _ r) (Paired.mapP t f)
/-- what an object's description leans on: its own object, its own dict, the tuples -/
theorem ObjOk.stay (x : ObjOk P w H h a o) (k : ∀ b u, (b = a ∨ H b = some (.own a)) → h.get? b = some u → h'.get? b = some u)
    (ho : ∀ b, H b = some (.own a) → H' b = some (.own a)) (ht : ∀ b xs, H b = some (.tup xs) → H' b = some (.tup xs)) : ObjOk P w H' h' a o := by
  induction o with
  | lst xs => obtain ⟨z, its, n, r, e⟩ := x; exact ⟨z, its, n, r, k _ _ (.inl rfl) e⟩
  | tup xs => obtain ⟨z, its, r, ob, e, c⟩ := x; exact ⟨z, its, r, ob, k _ _ (.inl rfl) e, c⟩
  | dK kvs => obtain ⟨z, y, vs, r, ob, es, ep, e, c⟩ := x; exact ⟨z, y, vs, r, ob, es, ep, k _ _ (.inl rfl) e, c⟩
  | dT kvs =>
    obtain ⟨z, y, xs, r, ob, es, ep, e, c⟩ := x
    exact ⟨z, y, xs, Paired.mapP r fun p q z => ⟨z.1, ht _ _ z.2.1, z.2.2⟩, ob, es, ep, k _ _ (.inl rfl) e, c⟩
  | set S n => obtain ⟨ob, es, ep, t, e, c⟩ := x; exact ⟨ob, es, ep, t, k _ _ (.inl rfl) e, c⟩
  | ins C dx fs =>
    obtain ⟨d, z, ne, e, mA, ⟨od, es, ep, e2, c⟩, r⟩ := x
    exact ⟨ho _ d, z, ne, k _ _ (.inl rfl) e, mA, ⟨od, es, ep, k _ _ (.inr d) e2, c⟩, r⟩
  | own y => obtain ⟨ob, e⟩ := x; exact ⟨ob, k _ _ (.inl rfl) e⟩
  | xd fs => obtain ⟨mA, ⟨od, es, ep, e, c⟩, r⟩ := x; exact ⟨mA, ⟨od, es, ep, k _ _ (.inl rfl) e, c⟩, r⟩
  | rng lo hi => obtain ⟨t, u, v, e⟩ := x; exact ⟨t, u, v, k _ _ (.inl rfl) e⟩
  | frz ob u ih => obtain ⟨e, q⟩ := x; exact ⟨k _ _ (.inl rfl) e, ih q⟩
  | tbl ps =>
    have e : h.get? a = some { cls := .none, data := .fields ps } := x
    show h'.get? a = some { cls := .none, data := .fields ps }
    exact k a _ (.inl rfl) e
  | met f y =>
    have e : h.get? a = some (PySem.W.methodObj (.ref f) (.ref y)) := x
    show h'.get? a = some (PySem.W.methodObj (.ref f) (.ref y))
    exact k a _ (.inl rfl) e
  | ext φ => obtain ⟨p, ⟨o, e⟩, st⟩ := x; exact ⟨st _ _ p fun o q => k _ _ (.inl rfl) q, ⟨o, k _ _ (.inl rfl) e⟩, st⟩
theorem HOk.lt (x : HOk P w H h) (e : H a = some o) : a < h.objs.size := (x a o e).lt
theorem HOk.fresh (x : HOk P w H h) (e : h.objs.size ≤ a) : H a = none := by
  cases q : H a with
  | none => rfl
  | some u => exact absurd (Nat.lt_of_lt_of_le (x.lt q) e) (Nat.lt_irrefl _)
/-- every object of the heap is kept -/
theorem HOk.kept (x : HOk P w H h) (k : ∀ b u, h.get? b = some u → h'.get? b = some u) : HOk P w H h' := fun a o e =>
  (x a o e).stay (fun b u _ q => k b u q) (fun _ q => q) fun _ _ q => q
/-- a new object is laid and tracked -/
theorem HOk.laid (x : HOk P w H h) (k : ∀ b u, h.get? b = some u → h'.get? b = some u) (hp : h.objs.size ≤ a) (new : ObjOk P w (upd H a o) h' a o) : HOk P w (upd H a o) h' := fun b u e => by
  have hn := x.fresh hp
  by_cases hb : b = a
  · subst hb; rw [upd_same] at e; cases e; exact new
  · rw [upd_ne hb] at e
    exact (x b u e).stay (fun c v _ q => k c v q) (fun c q => by rw [upd_ne (ne_of_none q hn)]; exact q) fun c xs q => by rw [upd_ne (ne_of_none q hn)]; exact q
end

/-- what may be read as u: it is u, or a known u -/
def Rd (H : Hp) (a : Addr) (u : HO) : Prop := H a = some u ∨ ∃ o, H a = some (.frz o u)
theorem Rd.ok {P : Program} {w : World} {H : Hp} {h : Heap} {a : Addr} {u : HO} (r : Rd H a u) (x : HOk P w H h) : ObjOk P w H h a u := by
  rcases r with r | ⟨o, r⟩
  · exact x a u r
  · obtain ⟨_, q⟩ := x a _ r
    exact q
/-- what may be written -/
def Mut : Option HO → Prop
  | some (.lst _) => True
  | some (.dK _) => True
  | some (.dT _) => True
  | some (.set _ _) => True
  | some (.ins _ _ _) => True
  | some (.ext _) => True
  | _ => False
section
variable {P : Program} {w : World} {H : Hp} {h h' : Heap} {x e : Addr} {o' : HO}
/-- the object at e is changed: x itself, or the dict of the instance x -/
theorem HOk.write (ok : HOk P w H h) (mu : Mut (H x)) (he : e = x ∨ H e = some (.own x)) (k : ∀ b u, b ≠ e → h.get? b = some u → h'.get? b = some u) (heo : ∃ u, h'.get? e = some u)
    (new : ObjOk P w (upd H x o') h' x o') : HOk P w (upd H x o') h' := fun b u q => by
  have nown : ∀ c y, H c = some (.own y) → c ≠ x := fun c y r z => by subst z; rw [r] at mu; exact mu
  have ntup : ∀ c xs, H c = some (.tup xs) → c ≠ x := fun c xs r z => by subst z; rw [r] at mu; exact mu
  by_cases hb : b = x
  · subst hb; rw [upd_same] at q; cases q; exact new
  · rw [upd_ne hb] at q
    by_cases hbe : b = e
    · have q' : H b = some (.own x) := by
        rcases he with z | z
        · exact absurd (hbe.trans z) hb
        · rw [hbe]; exact z
      rw [q] at q'; cases q'
      obtain ⟨v, hv⟩ := heo
      exact ⟨v, by rw [hbe]; exact hv⟩
    · refine (ok b u q).stay (fun c v hc r => k c v ?_ r) (fun c r => by rw [upd_ne (nown c b r)]; exact r) fun c xs r => by rw [upd_ne (ntup c xs r)]; exact r
      rcases hc with rfl | hc
      · exact hbe
      · rintro rfl
        rcases he with z | z
        · exact nown c b hc z
        · rw [hc] at z; cases z; exact hb rfl
end

/-! ### kept unless tracked; of the frames at fs (the callers') the slots may change (an exception that passes writes there); of the records at ex (iterators) nothing is said -/
structure Un (fs ex : List Addr) (H H' : Hp) (h h' : Heap) : Prop where
  keep : ∀ b o, h.get? b = some o → H b = none → b ∉ fs → b ∉ ex → h'.get? b = some o
  slot : ∀ b o, h.get? b = some o → H b = none → b ∈ fs → b ∉ ex → ∃ sl, h'.get? b = some { o with slots := sl }
  free : ∀ b o, h.get? b = some o → H b = none → b ∉ ex → H' b = none
  there : ∀ b o, h.get? b = some o → b ∉ ex → ∃ o', h'.get? b = some o'
  tups : ∀ b xs, H b = some (.tup xs) → H' b = some (.tup xs)
  frzs : ∀ b o u, H b = some (.frz o u) → H' b = some (.frz o u)
  tbls : ∀ b ps, H b = some (.tbl ps) → ∃ more, H' b = some (.tbl (ps ++ more))
section
variable {fs fs' ex ex' : List Addr} {H H1 H2 : Hp} {h h1 h2 h' : Heap} {a x e : Addr} {o : HO}
theorem Un.any (u : Un fs ex H H1 h h1) {b : Addr} {ob : Obj} (q : h.get? b = some ob) (n : H b = none) (hx : b ∉ ex) : ∃ sl, h1.get? b = some { ob with slots := sl } := by
  by_cases hb : b ∈ fs
  · exact u.slot b ob q n hb hx
  · exact ⟨ob.slots, u.keep b ob q n hb hx⟩
theorem Un.kept (k : ∀ b u, h.get? b = some u → h'.get? b = some u) : Un fs ex H H h h' :=
  ⟨fun b ob q _ _ _ => k b ob q, fun b ob q _ _ _ => ⟨ob.slots, k b ob q⟩, fun _ _ _ n _ => n, fun b ob q _ => ⟨ob, k b ob q⟩, fun _ _ q => q, fun _ _ _ q => q, fun _ ps q => ⟨#[], by rw [q]; simp⟩⟩
theorem Un.refl : Un fs ex H H h h := Un.kept fun _ _ q => q
theorem Un.laid (k : ∀ b u, h.get? b = some u → h'.get? b = some u) (hp : h.objs.size ≤ a) (hn : H a = none) : Un fs ex H (upd H a o) h h' where
  keep := fun b u q _ _ _ => k b u q
  slot := fun b u q _ _ _ => ⟨u.slots, k b u q⟩
  free := fun b u q n _ => by rw [upd_ne (Nat.ne_of_lt (Nat.lt_of_lt_of_le (Heap.lt_size q) hp))]; exact n
  there := fun b u q _ => ⟨u, k b u q⟩
  tups := fun b xs q => by rw [upd_ne (ne_of_none q hn)]; exact q
  frzs := fun b u xs q => by rw [upd_ne (ne_of_none q hn)]; exact q
  tbls := fun b ps q => ⟨#[], by rw [upd_ne (ne_of_none q hn), q]; simp⟩
theorem Un.write (mu : Mut (H x)) (he : e = x ∨ H e = some (.own x)) (k : ∀ b u, b ≠ e → h.get? b = some u → h'.get? b = some u) (heo : ∃ u, h'.get? e = some u) : Un fs ex H (upd H x o) h h' := by
  have hx : ∀ b, H b = none → b ≠ x := fun b n z => by subst z; rw [n] at mu; exact mu
  have hb : ∀ b, H b = none → b ≠ e := fun b n z => by
    subst z
    rcases he with r | r
    · exact hx b n r
    · rw [n] at r; cases r
  have hm : ∀ b u, H b = some u → ¬ Mut (some u) → b ≠ x := fun b u q nm z => by subst z; rw [q] at mu; exact nm mu
  refine ⟨fun b u q n _ _ => k b u (hb b n) q, fun b u q n _ _ => ⟨u.slots, k b u (hb b n) q⟩, fun b u q n _ => by rw [upd_ne (hx b n)]; exact n, fun b u q _ => ?_,
    fun b xs q => by rw [upd_ne (hm b _ q fun z => z)]; exact q, fun b u xs q => by rw [upd_ne (hm b _ q fun z => z)]; exact q, fun b ps q => ⟨#[], by rw [upd_ne (hm b _ q fun z => z), q]; simp⟩⟩
  by_cases hbe : b = e
  · subst hbe; exact heo
  · exact ⟨u, k b u hbe q⟩
end

/-! ### the heap without what is tracked -/
def trk (h : Heap) (H : Hp) : List Addr := (List.range h.objs.size).filter fun a => (H a).isSome
def hidT (h : Heap) (H : Hp) : Heap := PySem.W.hideAll h (trk h H)
theorem hidT_size (h : Heap) (H : Hp) : (hidT h H).objs.size = h.objs.size := PySem.W.hideAll_size _ _
theorem hidT_get {h : Heap} {H : Hp} {b : Addr} {o : Obj} (e : h.get? b = some o) (n : H b = none) : (hidT h H).get? b = some o :=
  PySem.W.hideAll_get _ e fun hm => by
    have q : (H b).isSome = true := (List.mem_filter.mp hm).2
    rw [n] at q; simp at q
theorem of_hidT {h : Heap} {H : Hp} {b : Addr} {o : Obj} (e : (hidT h H).get? b = some o) : h.get? b = some o ∧ H b = none := by
  have e' : h.get? b = some o := PySem.W.of_hideAll (trk h H) e
  refine ⟨e', ?_⟩
  cases q : H b with
  | none => rfl
  | some x =>
    have hm : b ∈ trk h H := List.mem_filter.mpr ⟨List.mem_range.mpr (Heap.lt_size e'), by simp [q]⟩
    have z : (hidT h H).get? b = none := PySem.W.hideAll_none (trk h H) hm
    rw [z] at e; cases e

/-! ### OpenK's ledger, filled with every new object but one -/
end L2

namespace L2
open PySem PySem.Spec PyProof.Rows

/-- the module's facts, over the base: the heap at the law's entry without what is tracked there -/
structure Mod (K : PySem.W.Frag) (mg : Str → Option Value) (base : Heap) : Prop where
  kin : K.In base
  glob : base.Ns mainGlobals mg
  blt : ∃ mb, base.Ns builtinsNs mb ∧ ∀ x : Str, x ≠ "__name__" → mb x = bootBuiltins x
  nolimit : base.NoLimit

/-- the context: a def's body (or a comprehension's block) running. base: fixed through the whole law; s₀, H₀: the entry; outer: the frames whose slots others may change (a def's callers); stack: all frames that run;
   ex: iterators that were made ahead of the entry and are walked here (a comprehension's); fn: the names whose cells were made at the entry (a def: all; a comprehension's block: its own); calm: not within an except suite; pn: pins that every state bears; xe: what is wanted of an exception that leaves the code -/
structure Cx where
  prog : Program
  w : World
  K : PySem.W.Frag
  mg : Str → Option Value
  base : Heap
  A : Around
  N : List Str
  s_0 : Shared
  H_0 : Hp
  env : Env
  outer : List Env
  stack : List Env
  ex : List Addr
  fn : Str → Bool
  calm : Bool
  pn : List (Addr × Obj)
  xe : Value → Shared → Prop
/-- the callers' frames -/
def frs (l : List Env) : List Addr := l.filterMap (·.frame)
abbrev Cx.fs (X : Cx) : List Addr := frs X.outer

def Vis (sc : Scope) (x : Str) : Prop := sc.names.lookup x = some .local ∨ sc.names.lookup x = some .cell ∨ sc.names.lookup x = some .free
def Loc (sc : Scope) (x : Str) : Prop := sc.names.lookup x = some .local ∨ sc.names.lookup x = some .cell
def Look (env : Env) (h : Heap) (m : Str → Option Value) (x : Str) (u : Value) : Prop :=
  (env.kindOf x = some .local ∧ m x = some u) ∨ ((env.kindOf x = some .cell ∨ env.kindOf x = some .free) ∧ ∃ c, env.cells.lookup x = some c ∧ h.IsCell c (some u))

structure Cx.Ok (X : Cx) : Prop where
  mod : Mod X.K X.mg X.base
  kind : X.env.scope.kind = .function
  glob : X.env.globals = mainGlobals
  blt : X.env.builtins = builtinsNs
  above : X.s_0.heap.objs.size ≤ X.env.locals
  inj : ∀ x y c, X.env.cells.lookup x = some c → X.env.cells.lookup y = some c → x = y
  has : ∀ x, (X.env.kindOf x = some .cell ∨ X.env.kindOf x = some .free) → ∃ c, X.env.cells.lookup x = some c
  cab : ∀ x c, X.fn x = true → X.env.cells.lookup x = some c → X.s_0.heap.objs.size ≤ c
  hd : X.calm = true → X.A.handled = none
  frames : X.A.frames = some X.stack
  stk : X.stack = X.outer ∨ (X.stack = X.env :: X.outer ∧ X.env.frame = some X.env.locals)
  exf : ∀ b ∈ X.ex, b ≠ X.env.locals ∧ ∀ x c, X.env.cells.lookup x = some c → c ≠ b
  bs : ∀ b o, X.base.get? b = some o → X.s_0.heap.get? b = some o ∧ X.H_0 b = none
  bsz : X.base.objs.size ≤ X.s_0.heap.objs.size
  noex : ∀ b o, X.base.get? b = some o → b ∉ X.ex
  exfs : ∀ b ∈ X.ex, b ∉ X.fs
  funs : X.s_0.heap.FunFrames X.base X.outer
  frf : ∀ b ∈ X.fs, X.H_0 b = none

structure Inv (X : Cx) (pins : List (Addr × Obj)) (σ : List (Option V)) (H : Hp) (s : Shared) : Prop where
  ok : X.Ok
  os : s.os = X.s_0.os
  bare : AllBare s.gens
  base : Un X.fs X.ex X.H_0 H X.s_0.heap s.heap
  loc : ∃ m, s.heap.Ns X.env.locals m ∧ ∀ (i : Nat) (x : Str) (v : V), X.N[i]? = some x → σ[i]? = some (some v) → Vis X.env.scope x → ∃ u, RelV v u ∧ Look X.env s.heap m x u
  cell : ∀ x c, X.env.cells.lookup x = some c → ∃ v, s.heap.IsCell c v
  free : H X.env.locals = none
  freeC : ∀ x c, X.env.cells.lookup x = some c → H c = none
  pin : ∀ p ∈ X.pn ++ pins, s.heap.get? p.1 = some p.2 ∧ H p.1 = none ∧ p.1 ≠ X.env.locals ∧ p.1 ∉ X.fs ∧ ∀ v, p.2.data ≠ .cell v
  hok : HOk X.prog X.w H s.heap
  len : σ.length = X.N.length

section
variable {X : Cx} {pins : List (Addr × Obj)} {σ : List (Option V)} {H H' : Hp} {s : Shared} {h' : Heap}

theorem Cx.Ok.nofr (ok : X.Ok) {b : Addr} {o : Obj} (e : X.base.get? b = some o) : b ∉ X.fs := fun hb => by
  have := (ok.funs.mem hb).1
  rw [e] at this; cases this
theorem Inv.bs (I : Inv X pins σ H s) : ∀ b o, X.base.get? b = some o → s.heap.get? b = some o ∧ H b = none := fun b o e =>
  ⟨I.base.keep b o (I.ok.bs b o e).1 (I.ok.bs b o e).2 (I.ok.nofr e) (I.ok.noex b o e), I.base.free b o (I.ok.bs b o e).1 (I.ok.bs b o e).2 (I.ok.noex b o e)⟩
theorem Inv.bk (I : Inv X pins σ H s) : ∀ b o, X.base.get? b = some o → s.heap.get? b = some o := fun b o e => (I.bs b o e).1
theorem Inv.mod (I : Inv X pins σ H s) : Mod X.K X.mg X.base := I.ok.mod
theorem Inv.kIn (I : Inv X pins σ H s) : X.K.In s.heap := I.ok.mod.kin.keeps I.bk
theorem Inv.lt (I : Inv X pins σ H s) : X.env.locals < s.heap.objs.size := let ⟨_, hn, _⟩ := I.loc; hn.lt
theorem Inv.sz (I : Inv X pins σ H s) : X.s_0.heap.objs.size ≤ s.heap.objs.size := Nat.le_trans I.ok.above (Nat.le_of_lt I.lt)
theorem Inv.nofs (I : Inv X pins σ H s) {a : Addr} (h : s.heap.objs.size ≤ a) : a ∉ X.fs := fun hb => by
  obtain ⟨_, o, ho, _⟩ := I.ok.funs.mem hb
  exact absurd (Nat.lt_of_lt_of_le (Heap.lt_size ho) (Nat.le_trans I.sz h)) (Nat.lt_irrefl _)
theorem Inv.cne (I : Inv X pins σ H s) : ∀ x c, X.env.cells.lookup x = some c → c ≠ X.env.locals := fun x c e z => by
  obtain ⟨v, o, ho, hd⟩ := I.cell x c e
  obtain ⟨m, ⟨o', es, ep, ho', hd', _⟩, _⟩ := I.loc
  rw [z, ho'] at ho; cases ho; rw [hd'] at hd; cases hd
theorem Inv.funs (I : Inv X pins σ H s) : s.heap.FunFrames X.base X.outer := by
  have all : ∀ (l : List Env), (∀ b ∈ frs l, b ∈ X.fs) → X.s_0.heap.FunFrames X.base l → s.heap.FunFrames X.base l := by
    intro l
    induction l with
    | nil => intro _ _; trivial
    | cons env r ih =>
      intro hs hl
      obtain ⟨hk, ⟨L, o, hf, hn, ho, hd⟩, hr⟩ := hl
      have hL : L ∈ X.fs := hs L (by unfold frs; rw [List.filterMap_cons, hf]; exact List.mem_cons_self)
      obtain ⟨sl, e⟩ := I.base.slot L o ho (I.ok.frf L hL) hL fun z => I.ok.exfs L z hL
      exact ⟨hk, ⟨L, _, hf, hn, e, hd⟩, ih (fun b hb => hs b (by unfold frs; rw [List.filterMap_cons, hf]; exact List.mem_cons_of_mem _ hb)) hr⟩
  exact all X.outer (fun _ hb => hb) I.ok.funs

/-- the frames that run, for a call -/
theorem Inv.stack (I : Inv X pins σ H s) : s.heap.FunFrames X.base X.stack := by
  rcases I.ok.stk with e | ⟨e, hf⟩
  · rw [e]; exact I.funs
  · rw [e]
    obtain ⟨m, hn, _⟩ := I.loc
    refine .cons (by rw [I.ok.kind]; decide) hf hn ?_ I.funs
    exact Heap.get?_none_of_le (Nat.le_trans I.ok.bsz I.ok.above)
theorem Inv.stkSub (I : Inv X pins σ H s) : ∀ b ∈ frs X.stack, b ∈ X.env.locals :: X.fs := fun b hb => by
  rcases I.ok.stk with e | ⟨e, hf⟩
  · rw [e] at hb; exact List.mem_cons_of_mem _ hb
  · rw [e] at hb
    unfold frs at hb
    rw [List.filterMap_cons, hf] at hb
    exact hb
theorem Inv.stkFree (I : Inv X pins σ H s) : ∀ b ∈ frs X.stack, H b = none := fun b hb => by
  rcases List.mem_cons.mp (I.stkSub b hb) with e | hb
  · rw [e]; exact I.free
  · obtain ⟨_, o, ho, _⟩ := I.ok.funs.mem hb
    exact I.base.free b o ho (I.ok.frf b hb) fun z => I.ok.exfs b z hb

/-- THE STEP: the untracked objects but the frame and the records at ch are kept (the callers' frames up to slots), the frame's map is kept, the new abstract heap is held -/
theorem Inv.step {g' : Array GenState} {t' : Nat} {d' : Drawn} {ch : List Addr} (I : Inv X pins σ H s)
    (hch : ∀ b ∈ ch, (b ∈ X.ex ∨ X.s_0.heap.objs.size ≤ b) ∧ b ≠ X.env.locals ∧ (∀ x c, X.env.cells.lookup x = some c → c ≠ b) ∧ ∀ p ∈ X.pn ++ pins, p.1 ≠ b)
    (keep : ∀ b o, b ≠ X.env.locals → b ∉ X.fs → b ∉ ch → s.heap.get? b = some o → H b = none → h'.get? b = some o)
    (slot : ∀ b o, b ≠ X.env.locals → b ∈ X.fs → b ∉ ch → s.heap.get? b = some o → H b = none → ∃ sl, h'.get? b = some { o with slots := sl }) (free : ∀ b o, b ∉ ch → s.heap.get? b = some o → H b = none → H' b = none)
    (there : ∀ b o, b ∉ ch → s.heap.get? b = some o → ∃ o', h'.get? b = some o')
    (tups : ∀ b xs, H b = some (.tup xs) → H' b = some (.tup xs)) (frzs : ∀ b o u, H b = some (.frz o u) → H' b = some (.frz o u)) (tbls : ∀ b ps, H b = some (.tbl ps) → ∃ more, H' b = some (.tbl (ps ++ more)))
    (ns : ∀ m, s.heap.Ns X.env.locals m → h'.Ns X.env.locals m) (hok : HOk X.prog X.w H' h') (hg : AllBare g') :
    Inv X pins σ H' { s with heap := h', gens := g', drawn := d', toks := t' } := by
  have neL : ∀ b o, X.s_0.heap.get? b = some o → b ≠ X.env.locals := fun b o e => Nat.ne_of_lt (Nat.lt_of_lt_of_le (Heap.lt_size e) I.ok.above)
  have neC : ∀ b o, X.s_0.heap.get? b = some o → b ∉ X.ex → b ∉ ch := fun b o e hx hb => by
    rcases (hch b hb).1 with z | z
    · exact hx z
    · exact absurd (Nat.lt_of_lt_of_le (Heap.lt_size e) z) (Nat.lt_irrefl _)
  have cellK : ∀ x c, X.env.cells.lookup x = some c → ∀ v, s.heap.IsCell c v → h'.IsCell c v := fun x c e v ⟨o, ho, hd⟩ => by
    have nch : c ∉ ch := fun z => (hch c z).2.2.1 x c e rfl
    by_cases hc : c ∈ X.fs
    · obtain ⟨sl, q⟩ := slot c o (I.cne x c e) hc nch ho (I.freeC x c e)
      exact ⟨_, q, hd⟩
    · exact ⟨o, keep c o (I.cne x c e) hc nch ho (I.freeC x c e), hd⟩
  refine ⟨I.ok, I.os, hg, ⟨fun b o e n hb hx => ?_, fun b o e n hb hx => ?_, fun b o e n hx => ?_, fun b o e hx => ?_, fun b xs e => tups b xs (I.base.tups b xs e), fun b o xs e => frzs b o xs (I.base.frzs b o xs e), fun b ps e => ?_⟩, ?_, fun x c e => ?_, ?_, fun x c e => ?_, fun p hp => ?_, hok, I.len⟩
  · exact keep b o (neL b o e) hb (neC b o e hx) (I.base.keep b o e n hb hx) (I.base.free b o e n hx)
  · obtain ⟨sl, e1⟩ := I.base.slot b o e n hb hx
    obtain ⟨sl', e2⟩ := slot b _ (neL b o e) hb (neC b o e hx) e1 (I.base.free b o e n hx)
    exact ⟨sl', e2⟩
  · obtain ⟨o', e1⟩ := I.base.there b o e hx
    exact free b o' (neC b o e hx) e1 (I.base.free b o e n hx)
  · obtain ⟨o', e1⟩ := I.base.there b o e hx
    exact there b o' (neC b o e hx) e1
  · obtain ⟨m1, e1⟩ := I.base.tbls b ps e
    obtain ⟨m2, e2⟩ := tbls b _ e1
    exact ⟨m1 ++ m2, by rw [e2, Array.append_assoc]⟩
  · obtain ⟨m, hn, hl⟩ := I.loc
    refine ⟨m, ns m hn, fun i x v e1 e2 e3 => ?_⟩
    obtain ⟨u, r, l⟩ := hl i x v e1 e2 e3
    refine ⟨u, r, ?_⟩
    rcases l with l | ⟨k, c, e, z⟩
    · exact .inl l
    · exact .inr ⟨k, c, e, cellK x c e _ z⟩
  · obtain ⟨v, z⟩ := I.cell x c e
    exact ⟨v, cellK x c e v z⟩
  · obtain ⟨m, ⟨o, _, _, ho, _⟩, _⟩ := I.loc
    exact free _ o (fun z => (hch _ z).2.1 rfl) ho I.free
  · obtain ⟨v, o, ho, hd⟩ := I.cell x c e
    exact free c o (fun z => (hch c z).2.2.1 x c e rfl) ho (I.freeC x c e)
  · obtain ⟨e, n, ne, nf, d⟩ := I.pin p hp
    have nch : p.1 ∉ ch := fun z => (hch p.1 z).2.2.2 p hp rfl
    exact ⟨keep p.1 p.2 ne nf nch e n, free p.1 p.2 nch e n, ne, nf, d⟩
/-- .. where the frame's own object is kept too -/
theorem Inv.un {t' : Nat} (I : Inv X pins σ H s) (u : Un X.fs [] H H' s.heap h') (hok : HOk X.prog X.w H' h') : Inv X pins σ H' { s with heap := h', toks := t' } := by
  obtain ⟨m, ⟨o, es, ep, ho, r⟩, _⟩ := id I.loc
  obtain ⟨sl, hL⟩ := u.any ho I.free (by simp)
  exact I.step (g' := s.gens) (d' := s.drawn) (ch := []) (fun _ z => nomatch z) (fun b o _ hb _ e n => u.keep b o e n hb (by simp)) (fun b o _ hb _ e n => u.slot b o e n hb (by simp)) (fun b o _ e n => u.free b o e n (by simp)) (fun b o _ e => u.there b o e (by simp)) u.tups u.frzs u.tbls (fun m' hm => by
    obtain ⟨o', es', ep', ho', r'⟩ := hm
    rw [ho] at ho'; cases ho'
    exact ⟨_, es', ep', hL, r'⟩) hok I.bare
/-- behind a call (or a comprehension's block): the slots of this frame may have changed too, the records at ch may have turned -/
theorem Inv.call {g' : Array GenState} {t' : Nat} {d' : Drawn} {ch : List Addr} (I : Inv X pins σ H s) (u : Un (frs X.stack) ch H H' s.heap h') (hok : HOk X.prog X.w H' h') (hg : AllBare g')
    (hch : ∀ b ∈ ch, (b ∈ X.ex ∨ X.s_0.heap.objs.size ≤ b) ∧ b ≠ X.env.locals ∧ (∀ x c, X.env.cells.lookup x = some c → c ≠ b) ∧ ∀ p ∈ X.pn ++ pins, p.1 ≠ b) :
    Inv X pins σ H' { s with heap := h', gens := g', drawn := d', toks := t' } := by
  obtain ⟨m, ⟨o, es, ep, ho, r⟩, _⟩ := id I.loc
  obtain ⟨sl, hL⟩ := u.any ho I.free fun z => (hch _ z).2.1 rfl
  exact I.step (ch := ch) hch (fun b o hL hb hc e n => u.keep b o e n (fun z => (List.mem_cons.mp (I.stkSub b z)).elim hL hb) hc) (fun b o _ _ hc e n => u.any e n hc) (fun b o hc e n => u.free b o e n hc) (fun b o hc e => u.there b o e hc) u.tups u.frzs u.tbls (fun m' hm => by
    obtain ⟨o', es', ep', ho', r'⟩ := hm
    rw [ho] at ho'; cases ho'
    exact ⟨_, es', ep', hL, r'⟩) hok hg
/-- an untracked record of ours (an iterator) has turned -/
theorem Inv.turned {t' : Nat} {it : Addr} (I : Inv X pins σ H s) (k : ∀ b o, b ≠ it → s.heap.get? b = some o → h'.get? b = some o) (hn : H it = none) (hL : it ≠ X.env.locals)
    (h1 : it ∈ X.ex ∨ X.s_0.heap.objs.size ≤ it) (h2 : ∀ x c, X.env.cells.lookup x = some c → c ≠ it) (h3 : ∀ p ∈ X.pn ++ pins, p.1 ≠ it) : Inv X pins σ H { s with heap := h', toks := t' } := by
  have nit : ∀ b u, H b = some u → b ≠ it := fun b u e z => by rw [z, hn] at e; cases e
  refine I.step (g' := s.gens) (d' := s.drawn) (ch := [it]) (fun b hb => ?_) (fun b o _ _ hc e _ => k b o (fun z => hc (by simp [z])) e) (fun b o _ _ hc e _ => ⟨o.slots, k b o (fun z => hc (by simp [z])) e⟩) (fun _ _ _ _ n => n)
    (fun b o hc e => ⟨o, k b o (fun z => hc (by simp [z])) e⟩) (fun _ _ e => e) (fun _ _ _ e => e) (fun b ps e => ⟨#[], by rw [e]; simp⟩) (fun m hm => ?_) (fun b u e => ?_) I.bare
  · have e : b = it := by simpa using hb
    subst e
    exact ⟨h1, hL, h2, h3⟩
  · obtain ⟨o, es, ep, ho, r⟩ := hm
    exact ⟨o, es, ep, k _ o (Ne.symm hL) ho, r⟩
  · refine (I.hok b u e).stay (fun c v hc q => k c v ?_ q) (fun _ q => q) fun _ _ q => q
    rcases hc with z | z
    · rw [z]; exact nit b u e
    · exact nit c _ z
theorem Inv.tok (I : Inv X pins σ H s) (t : Nat) : Inv X pins σ H { s with toks := t } := I.un (h' := s.heap) (t' := t) Un.refl I.hok
/-- all objects kept -/
theorem Inv.kept {t' : Nat} (I : Inv X pins σ H s) (k : ∀ b u, s.heap.get? b = some u → h'.get? b = some u) : Inv X pins σ H { s with heap := h', toks := t' } := I.un (Un.kept k) (I.hok.kept k)
/-- a new object laid and tracked -/
theorem Inv.laid {a : Addr} {o : HO} {t' : Nat} (I : Inv X pins σ H s) (k : ∀ b u, s.heap.get? b = some u → h'.get? b = some u) (hp : s.heap.objs.size ≤ a) (new : ObjOk X.prog X.w (upd H a o) h' a o) :
    Inv X pins σ (upd H a o) { s with heap := h', toks := t' } := I.un (Un.laid k hp (I.hok.fresh hp)) (I.hok.laid k hp new)
/-- an object written -/
theorem Inv.write {x e : Addr} {o : HO} {t' : Nat} (I : Inv X pins σ H s) (mu : Mut (H x)) (he : e = x ∨ H e = some (.own x)) (k : ∀ b u, b ≠ e → s.heap.get? b = some u → h'.get? b = some u) (heo : ∃ u, h'.get? e = some u)
    (new : ObjOk X.prog X.w (upd H x o) h' x o) : Inv X pins σ (upd H x o) { s with heap := h', toks := t' } := I.un (Un.write mu he k heo) (I.hok.write mu he k heo new)
/-- forgetting slots, pins -/
theorem Inv.weak {σ' : List (Option V)} (I : Inv X pins σ H s) (hl : σ'.length = σ.length) (w : ∀ (i : Nat) v, σ'[i]? = some (some v) → σ[i]? = some (some v)) : Inv X pins σ' H s :=
  ⟨I.ok, I.os, I.bare, I.base, let ⟨m, hn, hl'⟩ := I.loc; ⟨m, hn, fun i x v e1 e2 e3 => hl' i x v e1 (w i v e2) e3⟩, I.cell, I.free, I.freeC, I.pin, I.hok, hl.trans I.len⟩
theorem Inv.pins_of {pins' : List (Addr × Obj)} (I : Inv X pins σ H s) (h : ∀ p ∈ pins', s.heap.get? p.1 = some p.2 ∧ H p.1 = none ∧ p.1 ≠ X.env.locals ∧ p.1 ∉ X.fs ∧ ∀ v, p.2.data ≠ .cell v) : Inv X pins' σ H s :=
  ⟨I.ok, I.os, I.bare, I.base, I.loc, I.cell, I.free, I.freeC, fun p hp => (List.mem_append.mp hp).elim (fun z => I.pin p (List.mem_append_left _ z)) (h p), I.hok, I.len⟩

theorem nodup_ix {N : List Str} (hN : N.Nodup) {i j : Nat} {x : Str} (a : N[i]? = some x) (b : N[j]? = some x) : i = j := by
  obtain ⟨h1, e1⟩ := List.getElem?_eq_some_iff.mp a
  obtain ⟨h2, e2⟩ := List.getElem?_eq_some_iff.mp b
  exact (List.getElem_inj hN).mp (e1.trans e2.symm)

/-- a name is stored; what changed -/
theorem store_ok2 {M : Model} {A : Around} {E : Value → Shared → Prop} {i : Nat} {x : Str} {v : V} {u : Value} {Q : Unit → Shared → Prop} (I : Inv X pins σ H s) (hN : X.N.Nodup) (hi : X.N[i]? = some x) (hx : Loc X.env.scope x) (r : RelV v u)
    (h : ∀ s', Inv X pins (σ.set i (some v)) H s' → (∃ a, Heap.SameBut a s.heap s'.heap ∧ (a = X.env.locals ∨ X.env.cells.lookup x = some a)) → Q () s') (hf : X.fn x = true ∨ X.env.scope.names.lookup x = some .local := by first | exact .inl rfl | exact .inr rfl | assumption) : wpAny M A (storeName X.env x u) Q E s := by
  obtain ⟨m, hn, hl⟩ := id I.loc
  have hcls : (X.env.scope.kind == .class || (X.env.scope.kind == .module && X.env.locals != X.env.globals)) = false := by rw [I.ok.kind]; rfl
  have hiσ : i < σ.length := by rw [I.len]; exact (List.getElem?_eq_some_iff.mp hi).1
  have cne := I.cne
  have tracked : ∀ {a : Addr} {h' : Heap}, (∃ o, s.heap.get? a = some o ∧ H a = none) → Heap.SameBut a s.heap h' → HOk X.prog X.w H h' := fun {a h'} ha hs b ob e => by
    obtain ⟨_, _, hfree⟩ := ha
    refine (I.hok b ob e).stay (fun c w' hc q => (hs.2 c ?_).trans q) (fun _ q => q) fun _ _ q => q
    rintro rfl
    rcases hc with rfl | hc
    · rw [hfree] at e; cases e
    · rw [hfree] at hc; cases hc
  rcases hx with hk | hk
  · refine wpAny_storeName_local hk hn (fun h' hn' hs => ?_) hcls
    obtain ⟨oL, _, _, hoL, _⟩ := id hn
    refine h _ ⟨I.ok, I.os, I.bare, ⟨fun b o e n hb hx => ?_, fun b o e n hb hx => ?_, I.base.free, fun b o e hx => ?_, I.base.tups, I.base.frzs, I.base.tbls⟩, ⟨_, hn', fun j y v' e1 e2 e3 => ?_⟩, fun y c e => ?_, I.free, I.freeC, fun p hp => ?_, tracked ⟨oL, hoL, I.free⟩ hs, by simpa using I.len⟩ ⟨_, hs, .inl rfl⟩
    · exact (hs.2 b (Nat.ne_of_lt (Nat.lt_of_lt_of_le (Heap.lt_size e) I.ok.above))).trans (I.base.keep b o e n hb hx)
    · obtain ⟨sl, e1⟩ := I.base.slot b o e n hb hx
      exact ⟨sl, (hs.2 b (Nat.ne_of_lt (Nat.lt_of_lt_of_le (Heap.lt_size e) I.ok.above))).trans e1⟩
    · obtain ⟨o', e1⟩ := I.base.there b o e hx
      exact ⟨o', (hs.2 b (Nat.ne_of_lt (Nat.lt_of_lt_of_le (Heap.lt_size e) I.ok.above))).trans e1⟩
    · by_cases hj : j = i
      · subst hj
        rw [hi] at e1; cases e1
        rw [List.getElem?_set_self hiσ] at e2
        cases e2
        exact ⟨u, r, .inl ⟨hk, by simp⟩⟩
      · rw [List.getElem?_set_ne (Ne.symm hj)] at e2
        obtain ⟨u', r', q⟩ := hl j y v' e1 e2 e3
        refine ⟨u', r', ?_⟩
        rcases q with ⟨k, e⟩ | ⟨k, c, e, z⟩
        · refine .inl ⟨k, ?_⟩
          have : y ≠ x := fun e => hj (nodup_ix hN e1 (e ▸ hi))
          simp [this, e]
        · exact .inr ⟨k, c, e, z.sameBut hs (cne y c e)⟩
    · obtain ⟨w', z⟩ := I.cell y c e
      exact ⟨w', z.sameBut hs (cne y c e)⟩
    · obtain ⟨e, n, ne, nf, d⟩ := I.pin p hp
      exact ⟨(hs.2 p.1 ne).trans e, n, ne, nf, d⟩
  · have hfn : X.fn x = true := by
      rcases hf with z | z
      · exact z
      · rw [z] at hk; cases hk
    obtain ⟨c, hc⟩ := I.ok.has x (.inl hk)
    obtain ⟨w', z⟩ := I.cell x c hc
    refine wpAny_storeName_cell I.ok.kind hk hc z (fun h' hc' hs => ?_)
    obtain ⟨oc, hoc, hocd⟩ := id z
    refine h { s with heap := h' } ⟨I.ok, I.os, I.bare, ⟨fun b o e n hb hx => ?_, fun b o e n hb hx => ?_, I.base.free, fun b o e hx => ?_, I.base.tups, I.base.frzs, I.base.tbls⟩, ⟨m, hn.sameBut hs (Ne.symm (cne x c hc)), fun j y v' e1 e2 e3 => ?_⟩, fun y c' e => ?_, I.free, I.freeC, fun p hp => ?_, tracked ⟨oc, hoc, I.freeC x c hc⟩ hs, by simpa using I.len⟩ ⟨c, hs, .inr hc⟩
    · exact (hs.2 b (Nat.ne_of_lt (Nat.lt_of_lt_of_le (Heap.lt_size e) (I.ok.cab x c hfn hc)))).trans (I.base.keep b o e n hb hx)
    · obtain ⟨sl, e1⟩ := I.base.slot b o e n hb hx
      exact ⟨sl, (hs.2 b (Nat.ne_of_lt (Nat.lt_of_lt_of_le (Heap.lt_size e) (I.ok.cab x c hfn hc)))).trans e1⟩
    · obtain ⟨o', e1⟩ := I.base.there b o e hx
      exact ⟨o', (hs.2 b (Nat.ne_of_lt (Nat.lt_of_lt_of_le (Heap.lt_size e) (I.ok.cab x c hfn hc)))).trans e1⟩
    · by_cases hj : j = i
      · subst hj
        rw [hi] at e1; cases e1
        rw [List.getElem?_set_self hiσ] at e2
        cases e2
        exact ⟨u, r, .inr ⟨.inl hk, c, hc, hc'⟩⟩
      · rw [List.getElem?_set_ne (Ne.symm hj)] at e2
        obtain ⟨u', r', q⟩ := hl j y v' e1 e2 e3
        refine ⟨u', r', ?_⟩
        rcases q with q | ⟨k, c', e, z'⟩
        · exact .inl q
        · refine .inr ⟨k, c', e, z'.sameBut hs ?_⟩
          rintro rfl
          exact hj (nodup_ix hN e1 (I.ok.inj _ _ _ e hc ▸ hi))
    · by_cases hcc : c' = c
      · subst hcc; exact ⟨_, hc'⟩
      · obtain ⟨w2, z2⟩ := I.cell y c' e
        exact ⟨w2, z2.sameBut hs hcc⟩
    · obtain ⟨e, n, ne, nf, d⟩ := I.pin p hp
      refine ⟨(hs.2 p.1 ?_).trans e, n, ne, nf, d⟩
      intro q
      rw [q, hoc] at e
      have q' : oc = p.2 := Option.some.inj e
      exact d w' (by rw [← q']; exact hocd)
theorem store_ok {M : Model} {A : Around} {E : Value → Shared → Prop} {i : Nat} {x : Str} {v : V} {u : Value} {Q : Unit → Shared → Prop} (I : Inv X pins σ H s) (hN : X.N.Nodup) (hi : X.N[i]? = some x) (hx : Loc X.env.scope x) (r : RelV v u)
    (h : ∀ s', Inv X pins (σ.set i (some v)) H s' → Q () s') (hf : X.fn x = true ∨ X.env.scope.names.lookup x = some .local := by first | exact .inl rfl | exact .inr rfl | assumption) : wpAny M A (storeName X.env x u) Q E s :=
  store_ok2 I hN hi hx r (fun s' I' _ => h s' I') hf
/-- behind a call or a block, the state as it is -/
theorem Inv.call' {s' : Shared} {ch : List Addr} (I : Inv X pins σ H s) (ho : s'.os = s.os) (u : Un (frs X.stack) ch H H' s.heap s'.heap) (hok : HOk X.prog X.w H' s'.heap) (hg : AllBare s'.gens)
    (hch : ∀ b ∈ ch, (b ∈ X.ex ∨ X.s_0.heap.objs.size ≤ b) ∧ b ≠ X.env.locals ∧ (∀ x c, X.env.cells.lookup x = some c → c ≠ b) ∧ ∀ p ∈ X.pn ++ pins, p.1 ≠ b) : Inv X pins σ H' s' := by
  obtain ⟨h', g', d', t', o'⟩ := s'
  have e : o' = s.os := ho
  subst e
  exact I.call (g' := g') (t' := t') (d' := d') u hok hg hch
end

/-! ### the judgements -/
/-- an exception: its class, its own dict's address (where it has one), the abstract heap behind it -/
abbrev XK := Value → Option Addr → Hp → Prop
abbrev St := List (Option V)
abbrev VK := V → Hp → Prop
/-- an expression's reading; a test's; an argument list's -/
abbrev TE := St → Hp → VK → Prop
abbrev TT := St → Hp → (Bool → Hp → Prop) → Prop
abbrev TA := St → Hp → (List V → Hp → Prop) → Prop
/-- what is wanted behind a statement -/
structure Ends where
  nx : St → Hp → Prop
  rt : VK
  bk : St → Hp → Prop := fun _ _ => False
  ct : St → Hp → Prop := fun _ _ => False
abbrev TS := Ends → St → Hp → Prop

def EP (X : Cx) (pins : List (Addr × Obj)) (σ : St) (Q : VK) (u : Value) (s' : Shared) : Prop := ∃ v H', Inv X pins σ H' s' ∧ RelV v u ∧ Q v H'
def TP (X : Cx) (pins : List (Addr × Obj)) (σ : St) (Q : Bool → Hp → Prop) (b : Bool) (s' : Shared) : Prop := ∃ H', Inv X pins σ H' s' ∧ Q b H'
def AP (X : Cx) (pins : List (Addr × Obj)) (σ : St) (Q : List V → Hp → Prop) (us : List Value) (s' : Shared) : Prop := ∃ vs H', Inv X pins σ H' s' ∧ Vals vs us ∧ Q vs H'
def SP (X : Cx) (pins : List (Addr × Obj)) (D : Ends) (f : Flow) (s' : Shared) : Prop :=
  match f with
  | .next => ∃ σ' H', Inv X pins σ' H' s' ∧ D.nx σ' H'
  | .brk => ∃ σ' H', Inv X pins σ' H' s' ∧ D.bk σ' H'
  | .cont => ∃ σ' H', Inv X pins σ' H' s' ∧ D.ct σ' H'
  | .ret u => ∃ v σ' H', Inv X pins σ' H' s' ∧ RelV v u ∧ D.rt v H'

def PE (X : Cx) (e : Expr) (t : TE) : Prop :=
  ∀ (pins : List (Addr × Obj)) (s : Shared) (σ : St) (H : Hp) (Q : VK), Inv X pins σ H s → t σ H Q → wpAny (model X.prog X.w) X.A (eval e X.env) (EP X pins σ Q) X.xe s
def PT (X : Cx) (e : Expr) (t : TT) : Prop :=
  ∀ (pins : List (Addr × Obj)) (s : Shared) (σ : St) (H : Hp) (Q : Bool → Hp → Prop), Inv X pins σ H s → t σ H Q → wpAny (model X.prog X.w) X.A (isTrue e X.env (eval e X.env)) (TP X pins σ Q) X.xe s
/-- a test whatever its 'whole' is (and, or) -/
def PW (X : Cx) (e : Expr) (t : TT) : Prop :=
  ∀ (whole : Sem Value) (pins : List (Addr × Obj)) (s : Shared) (σ : St) (H : Hp) (Q : Bool → Hp → Prop), Inv X pins σ H s → t σ H Q → wpAny (model X.prog X.w) X.A (isTrue e X.env whole) (TP X pins σ Q) X.xe s
theorem PW.pt {X : Cx} {e : Expr} {t : TT} (h : PW X e t) : PT X e t := h _
/-- an argument list (no star), from the left -/
def PA (X : Cx) (es : List Expr) (t : TA) : Prop :=
  ∀ (pos : Pos) (pins : List (Addr × Obj)) (s : Shared) (σ : St) (H : Hp) (Q : List V → Hp → Prop), Inv X pins σ H s → t σ H Q → wpAny (model X.prog X.w) X.A (spliced (backTo pos (starEach es X.env))) (AP X pins σ Q) X.xe s
def PS (X : Cx) (st : Stmt) (t : TS) : Prop :=
  ∀ (pins : List (Addr × Obj)) (s : Shared) (σ : St) (H : Hp) (D : Ends), Inv X pins σ H s → t D σ H → wpAny (model X.prog X.w) X.A (exec st X.env) (SP X pins D) X.xe s
def PSs (X : Cx) (st : List Stmt) (t : TS) : Prop :=
  ∀ (pins : List (Addr × Obj)) (s : Shared) (σ : St) (H : Hp) (D : Ends), Inv X pins σ H s → t D σ H → wpAny (model X.prog X.w) X.A (execs st X.env) (SP X pins D) X.xe s
/-- weaken the end -/
theorem thn {α : Type} {t : Sem α} {Q Q' : α → Shared → Prop} {M : Model} {A : Around} {E : Value → Shared → Prop} {s : Shared} (h : wpAny M A t Q E s) (hQ : ∀ a s, Q a s → Q' a s) : wpAny M A t Q' E s := wpAny_mono h hQ fun _ _ x => x
end L2

namespace L2
open PySem PySem.Spec PyProof.Rows
section
variable {X : Cx}

/-- two expressions in a row -/
theorem bin {a b : Expr} {ta tb : TE} (ha : PE X a ta) (hb : PE X b tb) {pins : List (Addr × Obj)} {s : Shared} {σ : St} {H : Hp} {R : V → V → Hp → Prop} (I : Inv X pins σ H s) (h : ta σ H fun x H1 => tb σ H1 fun y H2 => R x y H2)
    {α : Type} {Q : α → Shared → Prop} {f : Value → Value → Sem α}
    (hf : ∀ v u s2 x y H2, Inv X pins σ H2 s2 → RelV x v → RelV y u → R x y H2 → wpAny (model X.prog X.w) X.A (f v u) Q X.xe s2) :
    wpAny (model X.prog X.w) X.A (eval a X.env) (fun v s₁ => wpAny (model X.prog X.w) X.A (eval b X.env) (fun u s₂ => wpAny (model X.prog X.w) X.A (f v u) Q X.xe s₂) X.xe s₁) X.xe s := by
  refine thn (ha pins s σ H _ I h) fun v s1 ⟨x, H1, I1, r1, q1⟩ => ?_
  refine thn (hb pins s1 σ H1 _ I1 q1) fun u s2 ⟨y, H2, I2, r2, q2⟩ => ?_
  exact hf v u s2 x y H2 I2 r1 r2 q2

/-! ### names and constants -/
def tVar (i : Nat) : TE := fun σ H Q => ∃ v, σ[i]? = some (some v) ∧ Q v H
def tC (v : V) : TE := fun _ H Q => Q v H
theorem pe_var {i : Nat} {x : Str} {pos : Pos} (hN : X.N[i]? = some x) (hv : Vis X.env.scope x) (hd : (x == ("__debug__" : Str)) = false := by decide) (hcd : (x == ("__classdict__" : Str)) = false := by decide) : PE X (.Name x pos) (tVar i) := by
  intro pins s σ H Q I h
  obtain ⟨v, e, h⟩ := h
  obtain ⟨m, hn, hl⟩ := I.loc
  obtain ⟨u, r, l⟩ := hl i x v hN e hv
  have fin : EP X pins σ Q u s := ⟨v, H, I, r, h⟩
  rcases l with ⟨hk, hm⟩ | ⟨hk, c, hc, hcell⟩
  · exact wpAny_Name (wpAny_loadName_local I.ok.kind hk hn hm fin) hd
  · rcases hk with hk | hk
    · exact wpAny_Name (wpAny_loadName_cell I.ok.kind hk hc hcell fin) hd
    · exact wpAny_Name (wpAny_loadName_free I.ok.kind hk hc hcell fin hcd) hd
theorem pe_int {i j pos} : PE X (.Constant (.int i) j pos) (tC (.int i)) := fun _ _ _ H _ I h => wpAny_Constant_int ⟨.int i, H, I.tok _, ⟨_, rfl⟩, h⟩
theorem pe_bl {b j pos} : PE X (.Constant (.bool b) j pos) (tC (.bl b)) := fun _ _ _ H _ I h => Constant_bool ⟨.bl b, H, I, rfl, h⟩

/-- a global name of the def -/
def Gl (X : Cx) (x : Str) : Prop := X.env.kindOf x = some .globalImplicit
theorem ld_glob {E : Value → Shared → Prop} {pins : List (Addr × Obj)} {s : Shared} {σ : St} {H : Hp} {x : Str} {u : Value} {pos : Pos} {Q : Value → Shared → Prop} (I : Inv X pins σ H s) (hg : Gl X x) (hm : X.mg x = some u) (h : Q u s)
    (hd : (x == ("__debug__" : Str)) = false := by decide) : wpAny (model X.prog X.w) X.A (eval (.Name x pos) X.env) Q E s :=
  Calls.Name_function_global I.ok.kind hg (Calls.loadGlobal_global (by rw [I.ok.glob]; exact I.mod.glob.keeps I.bk) hm h) hd
theorem ld_blt {E : Value → Shared → Prop} {pins : List (Addr × Obj)} {s : Shared} {σ : St} {H : Hp} {x : Str} {u : Value} {pos : Pos} {Q : Value → Shared → Prop} (I : Inv X pins σ H s) (hg : Gl X x) (hm : X.mg x = none) (hv : bootBuiltins x = some u) (h : Q u s)
    (hn : x ≠ "__name__" := by decide) (hd : (x == ("__debug__" : Str)) = false := by decide) : wpAny (model X.prog X.w) X.A (eval (.Name x pos) X.env) Q E s := by
  obtain ⟨mb, h1, h2⟩ := I.mod.blt
  exact Calls.Name_function_global I.ok.kind hg (Calls.loadGlobal_builtin (by rw [I.ok.glob]; exact I.mod.glob.keeps I.bk) hm (by rw [I.ok.blt]; exact h1.keeps I.bk) ((h2 x hn).trans hv) h) hd
/-- a module's constant, a class, a function, as a value -/
theorem pe_glob {x : Str} {v : V} {u : Value} {pos : Pos} (hg : Gl X x) (hm : X.mg x = some u) (r : RelV v u) (hd : (x == ("__debug__" : Str)) = false := by decide) : PE X (.Name x pos) (tC v) :=
  fun _ _ _ H _ I h => ld_glob I hg hm ⟨v, H, I, r, h⟩ hd

/-! ### arithmetic -/
/-- two ints -/
def t2I (ta tb : TE) (k : Int → Int → Hp → Prop) : St → Hp → Prop := fun σ H => ta σ H fun x H1 => tb σ H1 fun y H2 => ∃ i j, x = .int i ∧ y = .int j ∧ k i j H2
variable {a b : Expr} {ta tb : TE} {pos : Pos}

/-! ### comparisons -/
def PC (X : Cx) (op : CmpOp) (a b : Expr) (t : TE) : Prop :=
  ∀ (pins : List (Addr × Obj)) (s : Shared) (σ : St) (H : Hp) (Q : VK), Inv X pins σ H s → t σ H Q →
    wpAny (model X.prog X.w) X.A (eval a X.env) (fun v s₁ => wpAny (model X.prog X.w) X.A (eval b X.env) (fun u s₂ => wpAny (model X.prog X.w) X.A (compareOp op v u) (EP X pins σ Q) X.xe s₂) X.xe s₁) X.xe s
theorem nobehind (b : Expr) {op : CmpOp} (h : op ≠ .In) (h2 : op ≠ .NotIn) : behindInMarks op b = false := by
  have e1 : (op == CmpOp.In) = false := by cases op <;> first | rfl | exact absurd rfl h
  have e2 : (op == CmpOp.NotIn) = false := by cases op <;> first | rfl | exact absurd rfl h2
  cases b <;> simp [behindInMarks, e1, e2]
def tCmp (p : Int → Int → Bool) (ta tb : TE) : TE := fun σ H Q => t2I ta tb (fun i j H2 => Q (.bl (p i j)) H2) σ H
abbrev tGt : TE → TE → TE := tCmp fun i j => decide (j < i)
abbrev tGe : TE → TE → TE := tCmp fun i j => decide (j ≤ i)
abbrev tEqI : TE → TE → TE := tCmp fun i j => decide (i = j)
abbrev tNeI : TE → TE → TE := tCmp fun i j => !decide (i = j)
/-- a comparison of two ints, by its rule -/
theorem pc_int {op : CmpOp} {p : Int → Int → Bool} (ha : PE X a ta) (hb : PE X b tb)
    (rule : ∀ (i j : Int) (t u : Tok) (Q : Value → Shared → Prop) (s : Shared), Q (.bool (p i j)) s → wpAny (model X.prog X.w) X.A (compareOp op (.int i t) (.int j u)) Q X.xe s) : PC X op a b (tCmp p ta tb) := by
  intro pins s σ H Q I h
  refine bin ha hb I h fun v u s2 x y H2 I2 rx ry q => ?_
  obtain ⟨i, j, rfl, rfl, q⟩ := q
  obtain ⟨t, rfl⟩ := rx
  obtain ⟨t', rfl⟩ := ry
  exact rule i j t t' _ s2 ⟨.bl _, H2, I2, rfl, q⟩
theorem pc_gt (ha : PE X a ta) (hb : PE X b tb) : PC X .Gt a b (tGt ta tb) := pc_int ha hb fun _ _ _ _ _ _ h => gt_int h
theorem pc_ge (ha : PE X a ta) (hb : PE X b tb) : PC X .GtE a b (tGe ta tb) := pc_int ha hb fun _ _ _ _ _ _ h => ge_int h
theorem pc_eqI (ha : PE X a ta) (hb : PE X b tb) : PC X .Eq a b (tEqI ta tb) := pc_int ha hb fun _ _ _ _ _ _ h => eq_int (by rw [Bool.beq_eq_decide_eq]; exact h)
theorem pc_neI (ha : PE X a ta) (hb : PE X b tb) : PC X .NotEq a b (tNeI ta tb) := pc_int ha hb fun _ _ _ _ _ _ h => ne_int (by rw [bne, Bool.beq_eq_decide_eq]; exact h)
/-- a comparison as a value, as a test -/
def tB (t : TE) : TT := fun σ H Q => t σ H fun x H1 => ∃ c, x = .bl c ∧ Q c H1
theorem pt_cmp {op : CmpOp} {t : TE} (h : PC X op a b t) (h1 : behindInMarks op b = false := by first | exact nobehind _ (by decide) (by decide) | rfl) : PT X (.Compare a [op] [b] pos) (tB t) := by
  intro pins s σ H Q I hw
  refine wpAny_isTrue_Compare1 (thn (h pins s σ H _ I hw) fun v s1 h1 => thn h1 fun u s2 h2 => thn h2 fun c s3 ⟨x, H1, I1, r1, q1⟩ => ?_) h1
  obtain ⟨d, rfl, q⟩ := q1
  cases r1
  exact wpAny_truthy_bool ⟨H1, I1, q⟩
/-- an expression whose value is a bool, as a test -/
theorem pt_val {e : Expr} {t : TE} (h : PE X e t) (he : ∀ whole, isTrue e X.env whole = (do let v ← whole; standAt e.pos; holding [v] (truthy v)) := by intro _; rfl) : PT X e (tB t) := by
  intro pins s σ H Q I hw
  refine isTrue_plain (thn (h pins s σ H _ I hw) fun v s1 ⟨x, H1, I1, r1, q1⟩ => ?_) (he _)
  obtain ⟨d, rfl, q⟩ := q1
  cases r1
  exact wpAny_truthy_bool ⟨H1, I1, q⟩

/-! ### and, or, not -/
variable {tA tB' : TT} {rest : List Expr}
def tAnd (t u : TT) : TT := fun σ H Q => t σ H fun c H1 => if c = true then u σ H1 Q else Q false H1
def tOr (t u : TT) : TT := fun σ H Q => t σ H fun c H1 => if c = true then Q true H1 else u σ H1 Q
def tNot (t : TT) : TT := fun σ H Q => t σ H fun c H1 => Q (!c) H1
theorem pw_and1 (ha : PT X a tA) : PW X (.BoolOp .And [a] pos) tA := by
  intro wh pins s σ H Q I h
  refine isTrue_and (thn (ha pins s σ H Q I h) fun c s1 e => ?_)
  cases c with
  | true => exact isTrue_and_nil e
  | false => exact e
theorem pw_or1 (ha : PT X a tA) : PW X (.BoolOp .Or [a] pos) tA := by
  intro wh pins s σ H Q I h
  refine isTrue_or (thn (ha pins s σ H Q I h) fun c s1 e => ?_)
  cases c with
  | false => exact isTrue_or_nil e
  | true => exact e
theorem pw_and (ha : PT X a tA) (hb : PW X (.BoolOp .And (b :: rest) pos) tB') : PW X (.BoolOp .And (a :: b :: rest) pos) (tAnd tA tB') := by
  intro wh pins s σ H Q I h
  refine isTrue_and (thn (ha pins s σ H _ I h) fun c s1 ⟨H1, I1, q1⟩ => ?_)
  cases c with
  | true => exact hb wh pins s1 σ H1 Q I1 q1
  | false => exact ⟨H1, I1, q1⟩
theorem pw_or (ha : PT X a tA) (hb : PW X (.BoolOp .Or (b :: rest) pos) tB') : PW X (.BoolOp .Or (a :: b :: rest) pos) (tOr tA tB') := by
  intro wh pins s σ H Q I h
  refine isTrue_or (thn (ha pins s σ H _ I h) fun c s1 ⟨H1, I1, q1⟩ => ?_)
  cases c with
  | true => exact ⟨H1, I1, q1⟩
  | false => exact hb wh pins s1 σ H1 Q I1 q1
theorem pt_not (ha : PT X a tA) : PT X (.UnaryOp .Not a pos) (tNot tA) := by
  intro pins s σ H Q I h
  exact isTrue_not (ha pins s σ H (fun c H1 => Q (!c) H1) I h)
end
end L2

namespace L2
open PySem PySem.Spec PyProof.Rows

/-! ### a list, a tuple that is read: tracked, frozen, or an object of the module -/
def SqL (K : PySem.W.Frag) (H : Hp) (a : Addr) (xs : List V) : Prop :=
  Rd H a (.lst xs) ∨
    ∃ (o : Obj) (its : Array Value) (n : Nat), K.lookup a = some o ∧ o.cls = .type "list" ∧ o.dict = none ∧ o.data = .seq its n ∧ its.size ≤ sizeLine ∧ Vals xs its.toList
def SqT (K : PySem.W.Frag) (H : Hp) (a : Addr) (xs : List V) : Prop :=
  Rd H a (.tup xs) ∨
    ∃ (o : Obj) (its : Array Value) (n : Nat), K.lookup a = some o ∧ o.cls = .type "tuple" ∧ o.data = .seq its n ∧ its.size ≤ sizeLine ∧ Vals xs its.toList
def absV : Value → Option V
  | .none => some .non
  | .bool b => some (.bl b)
  | .int i _ => some (.int i)
  | .str x _ => some (.str x)
  | .bytes b _ => some (.byt b)
  | .float b _ => some (.flt b)
  | .ref a => some (.ref a)
  | .type n => some (.ty n)
  | _ => none
theorem RelV.abs {x : V} {u : Value} (r : RelV x u) : absV u = some x := by
  cases x with
  | non => cases r; rfl
  | bl _ => cases r; rfl
  | int _ => obtain ⟨t, rfl⟩ := r; rfl
  | str _ => obtain ⟨t, rfl⟩ := r; rfl
  | byt _ => obtain ⟨t, rfl⟩ := r; rfl
  | flt _ => obtain ⟨t, rfl⟩ := r; rfl
  | ref _ => cases r; rfl
  | ty _ => cases r; rfl
theorem RelV.inj {x y : V} {u : Value} (r : RelV x u) (q : RelV y u) : x = y := Option.some.inj (r.abs.symm.trans q.abs)
theorem Vals.inj : ∀ {xs ys : List V} {us : List Value}, Vals xs us → Vals ys us → xs = ys
  | _, _, _, .nil, .nil => rfl
  | _, _, _, .cons r t, .cons r' t' => by rw [r.inj r', Vals.inj t t']
section
variable {X : Cx} {pins : List (Addr × Obj)} {σ : St} {H : Hp} {s : Shared} {a : Addr} {xs ys : List V}
theorem SqL.of {K : PySem.W.Frag} (h : H a = some (.lst xs)) : SqL K H a xs := .inl (.inl h)
theorem SqT.of {K : PySem.W.Frag} (h : H a = some (.tup xs)) : SqT K H a xs := .inl (.inl h)
theorem Inv.list (I : Inv X pins σ H s) (h : SqL X.K H a xs) : ∃ its : List Value, Vals xs its ∧ PlainL s.heap a its.toArray ∧ xs.length ≤ sizeLine := by
  rcases h with h | ⟨o, its, n, hk, hc, hd, hs, hz, r⟩
  · obtain ⟨z, its, n, r, e⟩ := h.ok I.hok
    exact ⟨its, r, ⟨_, n, e, rfl, rfl, rfl⟩, z⟩
  · refine ⟨its.toList, r, ⟨o, n, I.kIn a o hk, hc, hd, by simpa using hs⟩, ?_⟩
    have e := r.length
    simp only [Array.length_toList] at e
    omega
theorem Inv.tuple (I : Inv X pins σ H s) (h : SqT X.K H a xs) : ∃ its : List Value, Vals xs its ∧ IsTup s.heap a its.toArray ∧ xs.length ≤ sizeLine := by
  rcases h with h | ⟨o, its, n, hk, hc, hs, hz, r⟩
  · obtain ⟨z, its, r, p⟩ := h.ok I.hok
    exact ⟨its, r, p, z⟩
  · refine ⟨its.toList, r, ⟨o, I.kIn a o hk, hc, n, by simpa using hs⟩, ?_⟩
    have e := r.length
    simp only [Array.length_toList] at e
    omega
theorem Inv.list_inj (I : Inv X pins σ H s) (h : SqL X.K H a xs) (h' : SqL X.K H a ys) : xs = ys := by
  obtain ⟨its, r, ⟨o, n, e, _, _, d⟩, _⟩ := I.list h
  obtain ⟨its', r', ⟨o', n', e', _, _, d'⟩, _⟩ := I.list h'
  rw [e] at e'; cases e'
  rw [d] at d'
  injection d' with d1 _
  have : its = its' := by simpa using congrArg Array.toList d1
  subst this
  exact r.inj r'
theorem Inv.tuple_inj (I : Inv X pins σ H s) (h : SqT X.K H a xs) (h' : SqT X.K H a ys) : xs = ys := by
  obtain ⟨its, r, ⟨o, e, _, n, d⟩, _⟩ := I.tuple h
  obtain ⟨its', r', ⟨o', e', _, n', d'⟩, _⟩ := I.tuple h'
  rw [e] at e'; cases e'
  rw [d] at d'
  injection d' with d1 _
  have : its = its' := by simpa using congrArg Array.toList d1
  subst this
  exact r.inj r'
end

/-! ### another wish about exceptions -/
abbrev Cx.wish (X : Cx) (E : Value → Shared → Prop) : Cx := { X with xe := E }
/-- no exception leaves -/
abbrev Cx.nox (X : Cx) : Cx := X.wish fun _ _ => False
theorem Cx.Ok.wish {X : Cx} (ok : X.Ok) (E : Value → Shared → Prop) : (X.wish E).Ok :=
  ⟨ok.mod, ok.kind, ok.glob, ok.blt, ok.above, ok.inj, ok.has, ok.cab, ok.hd, ok.frames, ok.stk, ok.exf, ok.bs, ok.bsz, ok.noex, ok.exfs, ok.funs, ok.frf⟩
theorem Cx.Ok.unwish {X : Cx} {E : Value → Shared → Prop} (ok : (X.wish E).Ok) : X.Ok :=
  ⟨ok.mod, ok.kind, ok.glob, ok.blt, ok.above, ok.inj, ok.has, ok.cab, ok.hd, ok.frames, ok.stk, ok.exf, ok.bs, ok.bsz, ok.noex, ok.exfs, ok.funs, ok.frf⟩
section
variable {X : Cx} {pins : List (Addr × Obj)} {σ : St} {H : Hp} {s : Shared} {E : Value → Shared → Prop}
theorem Inv.wish (I : Inv X pins σ H s) (E : Value → Shared → Prop) : Inv (X.wish E) pins σ H s := ⟨I.ok.wish E, I.os, I.bare, I.base, I.loc, I.cell, I.free, I.freeC, I.pin, I.hok, I.len⟩
theorem Inv.unwish (I : Inv (X.wish E) pins σ H s) : Inv X pins σ H s := ⟨I.ok.unwish, I.os, I.bare, I.base, I.loc, I.cell, I.free, I.freeC, I.pin, I.hok, I.len⟩
theorem SP.unwish {D : Ends} {f : Flow} {s' : Shared} (h : SP (X.wish E) pins D f s') : SP X pins D f s' := by
  cases f with
  | next => obtain ⟨σ', H', I, q⟩ := h; exact ⟨σ', H', I.unwish, q⟩
  | brk => obtain ⟨σ', H', I, q⟩ := h; exact ⟨σ', H', I.unwish, q⟩
  | cont => obtain ⟨σ', H', I, q⟩ := h; exact ⟨σ', H', I.unwish, q⟩
  | ret u => obtain ⟨v, σ', H', I, r, q⟩ := h; exact ⟨v, σ', H', I.unwish, r, q⟩
theorem PSs.nox {st : List Stmt} {t : TS} (h : PSs X.nox st t) : PSs X st t := fun pins s σ H D I hw =>
  wpAny_mono (h pins s σ H D (I.wish _) hw) (fun _ _ q => q.unwish) fun _ _ z => False.elim z
end

/-! ### blocks and small statements -/
section
variable {X : Cx} {st : Stmt} {rest : List Stmt} {t u : TS} {e : Expr} {te : TE} {pos : Pos}
def tNext : TS := fun D σ H => D.nx σ H
def tSeq (t u : TS) : TS := fun D σ H => t { D with nx := u D } σ H
theorem pss_nil : PSs X [] tNext := fun _ _ σ H _ I h => wpAny_execs_nil ⟨σ, H, I, h⟩
theorem pss_cons (h1 : PS X st t) (h2 : PSs X rest u) : PSs X (st :: rest) (tSeq t u) := by
  intro pins s σ H D I h
  refine wpAny_execs_cons (thn (h1 pins s σ H { D with nx := u D } I h) fun f s1 q => ?_)
  cases f with
  | next =>
    obtain ⟨σ', H', I', q⟩ := q
    exact h2 pins s1 σ' H' D I' q
  | ret v => exact q
  | brk => exact q
  | cont => exact q
theorem pss_one (h1 : PS X st t) : PSs X [st] t := by
  intro pins s σ H D I h
  refine wpAny_execs_cons (thn (h1 pins s σ H D I h) fun f s1 q => ?_)
  cases f with
  | next => exact wpAny_execs_nil q
  | ret v => exact q
  | brk => exact q
  | cont => exact q
/-- in a def's body nothing is shown -/
theorem Inv.quiet {pins : List (Addr × Obj)} {σ : St} {H : Hp} {s : Shared} (I : Inv X pins σ H s) : interactive X.env = false := by simp [interactive, I.ok.kind]
/-- an expression whose value is dropped -/
def tDrop (te : TE) : TS := fun D σ H => te σ H fun _ H1 => D.nx σ H1
theorem ps_expr (he : PE X e te) (hs : swapsWith e none pos.line X.env = pure false := by rfl) : PS X (.Expr e pos) (tDrop te) := by
  intro pins s σ H D I h
  exact wpAny_Expr_any (thn (he pins s σ H _ I h) fun v s1 ⟨x, H1, I1, r1, q1⟩ => ⟨σ, H1, I1, q1⟩) I.quiet hs
def tRet (te : TE) : TS := fun D σ H => te σ H D.rt
theorem ps_ret (he : PE X e te) : PS X (.Return (some e) pos) (tRet te) := by
  intro pins s σ H D I h
  exact wpAny_Return_some (thn (he pins s σ H _ I h) fun v s1 ⟨x, H1, I1, r1, q1⟩ => ⟨x, σ, H1, I1, r1, q1⟩)
def tIfS (c : TT) (t u : TS) : TS := fun D σ H => c σ H fun b H1 => if b = true then t D σ H1 else u D σ H1
theorem ps_if {c : Expr} {a b : List Stmt} {tc : TT} (hc : PT X c tc) (ha : PSs X a t) (hb : PSs X b u) : PS X (.If c a b pos) (tIfS tc t u) := by
  intro pins s σ H D I h
  refine wpAny_If (thn (hc pins s σ H _ I h) fun d s1 ⟨H1, I1, q1⟩ => ?_)
  cases d with
  | true => exact ha pins s1 σ H1 D I1 q1
  | false => exact hb pins s1 σ H1 D I1 q1
end

/-! ### targets -/
abbrev TG := V → St → Hp → (St → Hp → Prop) → Prop
def PG (X : Cx) (target : Expr) (t : TG) : Prop :=
  ∀ (pins : List (Addr × Obj)) (s : Shared) (σ : St) (H : Hp) (v : V) (u : Value) (Q : St → Hp → Prop), Inv X pins σ H s → RelV v u → t v σ H Q →
    wpAny (model X.prog X.w) X.A (assign target X.env u) (fun _ s' => ∃ σ' H', Inv X pins σ' H' s' ∧ Q σ' H') X.xe s
/-- o[i] = v, by values -/
abbrev TSet := V → V → V → Hp → (Hp → Prop) → Prop
def PSet (X : Cx) (t : TSet) : Prop :=
  ∀ (pins : List (Addr × Obj)) (s : Shared) (σ : St) (H : Hp) (o i v : V) (ov iv u : Value) (Q : Hp → Prop), Inv X pins σ H s → RelV o ov → RelV i iv → RelV v u → t o i v H Q →
    wpAny (model X.prog X.w) X.A (setItem ov iv u) (fun _ s' => ∃ H', Inv X pins σ H' s' ∧ Q H') X.xe s
section
variable {X : Cx} {pos : Pos}
def gName (i : Nat) : TG := fun v σ H Q => Q (σ.set i (some v)) H
theorem pg_name {i : Nat} {x : Str} (hN : X.N.Nodup) (hi : X.N[i]? = some x) (hx : Loc X.env.scope x) (hf : X.fn x = true ∨ X.env.scope.names.lookup x = some .local := by first | exact .inl rfl | exact .inr rfl | assumption) : PG X (.Name x pos) (gName i) := by
  intro pins s σ H v u Q I r h
  exact wpAny_assign_Name (store_ok I hN hi hx r (fun s' I' => ⟨_, H, I', h⟩) hf)
/-- o[i] = .. -/
def gSub (to ti : TE) (t : TSet) : TG := fun v σ H Q => to σ H fun o H1 => ti σ H1 fun i H2 => t o i v H2 fun H3 => Q σ H3
theorem pg_sub {o i : Expr} {to ti : TE} {t : TSet} (ho : PE X o to) (hi : PE X i ti) (hs : PSet X t)
    (ha : ∀ v, assign (.Subscript o i pos) X.env v = (do
      let ov ← holding [v] (eval o X.env)
      let iv ← holding [v, ov] (eval i X.env)
      standAt pos
      holding [v, ov, iv] (setItem ov iv v)
      release [v, ov, iv] []) := by intro _; rfl) : PG X (.Subscript o i pos) (gSub to ti t) := by
  intro pins s σ H v u Q I r h
  rw [ha]
  refine wpAny_bind (wpAny_holding (thn (ho pins s σ H _ I h) fun ov s1 ⟨x, H1, I1, r1, q1⟩ => ?_))
  refine wpAny_bind (wpAny_holding (thn (hi pins s1 σ H1 _ I1 q1) fun iv s2 ⟨y, H2, I2, r2, q2⟩ => ?_))
  refine wpAny_bind (wpAny_standAt (wpAny_bind (wpAny_holding (thn (hs pins s2 σ H2 x y v ov iv u _ I2 r1 r2 r q2) fun _ s3 ⟨H3, I3, q3⟩ => ?_))))
  exact wpAny_release ⟨σ, H3, I3, q3⟩
/-- target = value -/
def tAsg (te : TE) (g : TG) : TS := fun D σ H => te σ H fun x H1 => g x σ H1 D.nx
theorem ps_asg {tg e : Expr} {te : TE} {g : TG} (he : PE X e te) (hg : PG X tg g) (hs : swapsWithSole [tg] e pos.line X.env = pure false := by rfl) (hw : swappedStores [tg] e X.env = pure none := by rfl)
    (h1 : (assignEach [tg] X.env).map (·.2) = [assign tg X.env] := by rfl) : PS X (.Assign [tg] e pos) (tAsg te g) := by
  intro pins s σ H D I h
  refine wpAny_Assign_stores (thn (he pins s σ H _ I h) fun v s1 ⟨x, H1, I1, r1, q1⟩ => ?_) hs hw
  rw [h1]
  exact thn (hg pins s1 σ H1 x v _ I1 r1 q1) fun _ s2 q => q
/-- name = value -/
theorem ps_set {i : Nat} {x : Str} {e : Expr} {te : TE} {pos' : Pos} (hN : X.N.Nodup) (hi : X.N[i]? = some x) (hx : Loc X.env.scope x) (he : PE X e te) (hs : swapsWith e (some (.Name x pos')) pos.line X.env = pure false := by rfl) (hf : X.fn x = true ∨ X.env.scope.names.lookup x = some .local := by first | exact .inl rfl | exact .inr rfl | assumption) :
    PS X (.Assign [.Name x pos'] e pos) (tAsg te (gName i)) := by
  intro pins s σ H D I h
  refine wpAny_Assign_Name (thn (he pins s σ H _ I h) fun v s1 ⟨y, H1, I1, r1, q1⟩ => ?_) hs
  exact store_ok I1 hN hi hx r1 (fun s2 I2 => ⟨_, H1, I2, q1⟩) hf
end

/-! ### while -/
section
variable {X : Cx} {pos : Pos}
/-- the invariant W with its measure -/
def tWhile (c : TT) (tb : TS) : TS := fun D σ H => ∃ W : Nat → St → Hp → Prop, (∃ m, W m σ H) ∧ ∀ m σ H, W m σ H →
  c σ H fun b H1 => if b = true then ∃ N : St → Hp → Prop, (∀ σ' H', N σ' H' → ∃ m', m' < m ∧ W m' σ' H') ∧ tb { D with nx := N, ct := N, bk := D.nx } σ H1 else D.nx σ H1
theorem ps_while {c : Expr} {body : List Stmt} {tc : TT} {tb : TS} (hp : PassesOwn (model X.prog X.w) X.A X.env X.xe) (hc : PT X c tc) (hb : PSs X body tb) : PS X (.While c body [] pos) (tWhile tc tb) := by
  intro pins s σ H D I h
  obtain ⟨W, ⟨m0, w0⟩, turn⟩ := h
  refine wpAny_While (codeAny_whileLoop (fun n s' => ∃ σ' H', Inv X pins σ' H' s' ∧ W n σ' H') ?_ m0 ⟨σ, H, I, w0⟩)
  rintro n s1 ⟨σ1, H1, I1, w1⟩
  refine wpAny_passesOwn hp (thn (hc pins s1 σ1 H1 _ I1 (turn n σ1 H1 w1)) fun b s2 ⟨H2, I2, q2⟩ => ?_)
  cases b with
  | true =>
    obtain ⟨N, hN, q2⟩ := q2
    rw [if_pos rfl]
    refine wpAny_passesOwn hp (thn (hb pins s2 σ1 H2 _ I2 q2) fun f s3 q3 => ?_)
    cases f with
    | next =>
      obtain ⟨σ3, H3, I3, n3⟩ := q3
      obtain ⟨m', hm, w3⟩ := hN σ3 H3 n3
      exact ⟨m', hm, σ3, H3, I3, w3⟩
    | cont =>
      obtain ⟨σ3, H3, I3, n3⟩ := q3
      obtain ⟨m', hm, w3⟩ := hN σ3 H3 n3
      exact ⟨m', hm, σ3, H3, I3, w3⟩
    | brk => exact q3
    | ret v => exact q3
  | false =>
    rw [if_neg Bool.false_ne_true]
    exact wpAny_execs_nil ⟨σ1, H2, I2, q2⟩
end

/-! ### what a loop or a comprehension walks -/
/-- at turn i: it yields x (the heap may grow), or it stops -/
structure It where
  go : Nat → Hp → Prop
  yld : Nat → Hp → V → Hp → Prop
  stop : Nat → Hp → Prop
/-- the iterator's own objects may turn: they are not the frame's, not pinned, younger than the entry (or a comprehension's own) -/
def FpOk (X : Cx) (pins : List (Addr × Obj)) (H : Hp) (b : Addr) : Prop :=
  H b = none ∧ b ≠ X.env.locals ∧ b ∉ X.fs ∧ (b ∈ X.ex ∨ X.s_0.heap.objs.size ≤ b) ∧ (∀ x c, X.env.cells.lookup x = some c → c ≠ b) ∧ ∀ p ∈ X.pn ++ pins, p.1 ≠ b
theorem Inv.fpOk {X : Cx} {pins : List (Addr × Obj)} {σ : St} {H H' : Hp} {s : Shared} {b : Addr} (I : Inv X pins σ H s) (hb : s.heap.objs.size ≤ b) (hn : H' b = none) : FpOk X pins H' b := by
  refine ⟨hn, Nat.ne_of_gt (Nat.lt_of_lt_of_le I.lt hb), I.nofs hb, .inr (Nat.le_trans I.sz hb), fun x c e z => ?_, fun p hp z => ?_⟩
  · obtain ⟨v, q⟩ := I.cell x c e
    exact absurd (Nat.lt_of_lt_of_le q.lt (by rw [z]; exact hb)) (Nat.lt_irrefl _)
  · exact absurd (Nat.lt_of_lt_of_le (Heap.lt_size (I.pin p hp).1) (by rw [z]; exact hb)) (Nat.lt_irrefl _)
structure Turn (P : Program) (w : World) (K : PySem.W.Frag) (tg : Expr) (J : It) (fp : List Addr) (it : Addr) (tn : Nat → Heap → Prop) : Prop where
  mem : it ∈ fp
  obj : ∀ i h, tn i h → ∀ b ∈ fp, ∃ o, h.get? b = some o ∧ ∀ v, o.data ≠ .cell v
  keep : ∀ i h h', tn i h → (∀ b ∈ fp, ∀ o, h.get? b = some o → h'.get? b = some o) → tn i h'
  item : ∀ (X : Cx), X.prog = P → X.w = w → X.K = K → X.calm = true → ∀ (i : Nat) (pins : List (Addr × Obj)) (s : Shared) (σ : St) (H : Hp) (E : Value → Shared → Prop), Inv X pins σ H s → (∀ b ∈ fp, FpOk X pins H b) → tn i s.heap → J.go i H →
    wpAny (model P w) X.A (pyNext (.ref it)) (fun r s1 => ∃ u, r = some u ∧
      wpAny (model P w) X.A (letOwnedTupleGo tg (.ref it) u) (fun _ s2 => ∃ x H', Inv X pins σ H' s2 ∧ RelV x u ∧ J.yld i H x H' ∧ tn (i + 1) s2.heap ∧ ∀ b ∈ fp, H' b = none) E s1) E s
  done : ∀ (X : Cx), X.prog = P → X.w = w → X.K = K → X.calm = true → ∀ (i : Nat) (pins : List (Addr × Obj)) (s : Shared) (σ : St) (H : Hp) (E : Value → Shared → Prop), Inv X pins σ H s → (∀ b ∈ fp, FpOk X pins H b) → tn i s.heap → J.stop i H →
    wpAny (model P w) X.A (pyNext (.ref it)) (fun r s1 => r = none ∧ Inv X pins σ H s1) E s
  self : ∀ (A : Around) (i : Nat) (s : Shared) (Q : Value → Shared → Prop) (E : Value → Shared → Prop), tn i s.heap → Q (.ref it) s → wpAny (model P w) A (pyIter (.ref it)) Q E s
abbrev TI := St → Hp → (It → Hp → Prop) → Prop
/-- an iterator has come -/
def PIE (X : Cx) (pins : List (Addr × Obj)) (σ : St) (tg : Expr) (R : It → Hp → Prop) (itv : Value) (s2 : Shared) : Prop :=
  ∃ (it : Addr) (fp : List Addr) (tn : Nat → Heap → Prop) (J : It) (H' : Hp), itv = .ref it ∧ Inv X pins σ H' s2 ∧ Turn X.prog X.w X.K tg J fp it tn ∧ tn 0 s2.heap ∧ (∀ b ∈ fp, FpOk X pins H' b) ∧ R J H'
def PI (X : Cx) (tg iter : Expr) (wi : TI) : Prop :=
  ∀ (pins : List (Addr × Obj)) (s : Shared) (σ : St) (H : Hp) (R : It → Hp → Prop), Inv X pins σ H s → wi σ H R →
    wpAny (model X.prog X.w) X.A (eval iter X.env) (fun v s1 => wpAny (model X.prog X.w) X.A (pyIter v) (PIE X pins σ tg R) X.xe s1) X.xe s

/-- the step ahead of the store is nothing for an iterator that keeps no tuple -/
theorem go_of {M : Model} {A : Around} {E : Value → Shared → Prop} {s : Shared} {tg : Expr} {it : Addr} {u : Value} {o : Obj} {n : String} {vs : Array Value} {Q : Unit → Shared → Prop} (ho : s.heap.get? it = some o) (hc : o.cls = .type n) (hd : o.data = .fields vs)
    (hn : ["enumerate", "zip", "dict_itemiterator", "dict_reverseitemiterator", "odict_iterator", "itertools.zip_longest", "itertools.pairwise"].contains n = false) (hQ : Q () s) : wpAny M A (letOwnedTupleGo tg (.ref it) u) Q E s := by
  unfold letOwnedTupleGo
  cases tg <;> first
    | exact wpAny_pure hQ
    | (cases u <;> first
        | exact wpAny_pure hQ
        | (refine wpAny_bind (wpAny_load ho ?_)
           rw [hc, hd]
           show wpAny M A (if (["enumerate", "zip", "dict_itemiterator", "dict_reverseitemiterator", "odict_iterator", "itertools.zip_longest", "itertools.pairwise"].contains n && vs[0]? == some (rawInt _)) = true then _ else _) Q E s
           rw [if_neg (by intro h; rw [hn, Bool.false_and] at h; cases h)]
           exact wpAny_pure hQ))

/-- the list at a, as it stands at each turn (a loop may append to it) -/
def Itl (K : PySem.W.Frag) (a : Addr) : It :=
  ⟨fun i H => ∃ xs x, SqL K H a xs ∧ xs[i]? = some x, fun i H x H' => H' = H ∧ ∀ xs, SqL K H a xs → xs[i]? = some x, fun i H => ∃ xs, SqL K H a xs ∧ xs.length ≤ i⟩
def Itt (K : PySem.W.Frag) (a : Addr) : It :=
  ⟨fun i H => ∃ xs x, SqT K H a xs ∧ xs[i]? = some x, fun i H x H' => H' = H ∧ ∀ xs, SqT K H a xs → xs[i]? = some x, fun i H => ∃ xs, SqT K H a xs ∧ xs.length ≤ i⟩
/-- lo, lo + 1, .. (n of them) -/
def Itr (lo : Int) (n : Nat) : It := ⟨fun i _ => i < n, fun i H x H' => H' = H ∧ x = .int (lo + i), fun i _ => n ≤ i⟩
theorem turn_list {P : Program} {w : World} {K : PySem.W.Frag} {tg : Expr} (a it : Addr) : Turn P w K tg (Itl K a) [it] it (fun i h => h.IsListIter it a i) where
  mem := by simp
  obj := fun i h st b hb => by
    have e : b = it := by simpa using hb
    subst e
    obtain ⟨o, e, c, d⟩ := st
    exact ⟨o, e, fun v z => by rw [d] at z; cases z⟩
  keep := fun i h h' st k => st.at fun o e => k it (by simp) o e
  item := by
    intro X hP hw hK hc i pins s σ H E I hf st hg
    subst hP hw hK
    obtain ⟨xs, x, hq, hx⟩ := hg
    obtain ⟨its, rv, p, hz⟩ := I.list hq
    obtain ⟨u, hu, ru⟩ := rv.get hx
    obtain ⟨f0, f1, f2, f3, f4, f5⟩ := hf it (by simp)
    refine wpAny_pyNext_list_item st p.isList (x := u) (by simpa using hu) fun h' st' sb => ?_
    have I1 : Inv X pins σ H { s with heap := h' } := I.turned (t' := s.toks) (fun b o hb e => (sb.2 b hb).trans e) f0 f1 f3 f4 f5
    obtain ⟨o, e, c, d⟩ := id st'
    exact ⟨u, rfl, go_of (s := { s with heap := h' }) e c d (by decide) ⟨x, H, I1, ru, ⟨rfl, fun ys hy => by rw [I.list_inj hy hq]; exact hx⟩, st', fun b hb => (hf b hb).1⟩⟩
  done := by
    intro X hP hw hK hc i pins s σ H E I hf st hg
    subst hP hw hK
    obtain ⟨xs, hq, hx⟩ := hg
    obtain ⟨its, rv, p, hz⟩ := I.list hq
    obtain ⟨f0, f1, f2, f3, f4, f5⟩ := hf it (by simp)
    have hl := rv.length
    exact wpAny_pyNext_list_end (I.ok.hd hc) st p.isList (by simp; omega) fun h' eb => ⟨rfl, I.turned (t' := s.toks) (fun b o hb e => eb b o hb e) f0 f1 f3 f4 f5⟩
  self := fun _ _ _ _ _ st h => wpAny_pyIter_listiter st h
theorem turn_tuple {P : Program} {w : World} {K : PySem.W.Frag} {tg : Expr} (a it : Addr) : Turn P w K tg (Itt K a) [it] it (fun i h => h.IsTupleIter it a i) where
  mem := by simp
  obj := fun i h st b hb => by
    have e : b = it := by simpa using hb
    subst e
    obtain ⟨o, e, c, d⟩ := st
    exact ⟨o, e, fun v z => by rw [d] at z; cases z⟩
  keep := fun i h h' st k => st.at fun o e => k it (by simp) o e
  item := by
    intro X hP hw hK hc i pins s σ H E I hf st hg
    subst hP hw hK
    obtain ⟨xs, x, hq, hx⟩ := hg
    obtain ⟨its, rv, p, hz⟩ := I.tuple hq
    obtain ⟨u, hu, ru⟩ := rv.get hx
    obtain ⟨f0, f1, f2, f3, f4, f5⟩ := hf it (by simp)
    refine wpAny_pyNext_tuple_item st (show s.heap.IsTuple a its.toArray from p) (x := u) (by simpa using hu) fun h' st' sb => ?_
    have I1 : Inv X pins σ H { s with heap := h' } := I.turned (t' := s.toks) (fun b o hb e => (sb.2 b hb).trans e) f0 f1 f3 f4 f5
    obtain ⟨o, e, c, d⟩ := id st'
    exact ⟨u, rfl, go_of (s := { s with heap := h' }) e c d (by decide) ⟨x, H, I1, ru, ⟨rfl, fun ys hy => by rw [I.tuple_inj hy hq]; exact hx⟩, st', fun b hb => (hf b hb).1⟩⟩
  done := by
    intro X hP hw hK hc i pins s σ H E I hf st hg
    subst hP hw hK
    obtain ⟨xs, hq, hx⟩ := hg
    obtain ⟨its, rv, p, hz⟩ := I.tuple hq
    obtain ⟨f0, f1, f2, f3, f4, f5⟩ := hf it (by simp)
    have hl := rv.length
    exact wpAny_pyNext_tuple_end (I.ok.hd hc) st (show s.heap.IsTuple a its.toArray from p) (by simp; omega) fun h' eb => ⟨rfl, I.turned (t' := s.toks) (fun b o hb e => eb b o hb e) f0 f1 f3 f4 f5⟩
  self := fun _ _ _ _ _ st h => wpAny_pyIter_tupleiter st h
theorem turn_range {P : Program} {w : World} {K : PySem.W.Frag} {tg : Expr} (it : Addr) (lo : Int) (n : Nat) : Turn P w K tg (Itr lo n) [it] it (fun i h => IsRangeIter h it (lo + (i : Nat) * 1) ((n : Int) - (i : Nat)) 1) where
  mem := by simp
  obj := fun i h st b hb => by
    have e : b = it := by simpa using hb
    subst e
    exact ⟨_, st, fun v z => by
      have z' : Data.fields _ = Data.cell v := z
      cases z'⟩
  keep := fun i h h' st k => k it (by simp) _ st
  item := by
    intro X hP hw hK hc i pins s σ H E I hf st hg
    subst hP hw hK
    obtain ⟨f0, f1, f2, f3, f4, f5⟩ := hf it (by simp)
    have W := Walks.range (prog := X.prog) (w := X.w) (I.ok.hd hc) it lo 1 n
    refine W.item i s _ _ hg st fun v h' tk hv st' kk => ?_
    obtain ⟨t, rfl⟩ := hv
    have I1 : Inv X pins σ H { s with heap := h', toks := tk } := I.turned (fun b o hb e => kk b o (by simpa using hb) e) f0 f1 f3 f4 f5
    refine ⟨_, rfl, go_of (s := { s with heap := h', toks := tk }) (n := "range_iterator") st' rfl rfl (by decide) ⟨.int (lo + i), H, I1, ⟨t, ?_⟩, ⟨rfl, rfl⟩, st', fun b hb => (hf b hb).1⟩⟩
    rw [Int.mul_one]
  done := by
    intro X hP hw hK hc i pins s σ H E I hf st hg
    subst hP hw hK
    obtain ⟨f0, f1, f2, f3, f4, f5⟩ := hf it (by simp)
    exact wpAny_pyNext_range_end (I.ok.hd hc) st (by have : n ≤ i := hg; omega) fun h' eb => ⟨rfl, I.turned (t' := s.toks) (fun b o hb e => eb b o hb e) f0 f1 f3 f4 f5⟩
  self := fun _ _ _ _ _ st h => wpAny_pyIter_rangeiter st h
end L2

namespace L2
open PySem PySem.Spec PyProof.Rows
section
variable {X : Cx} {tg : Expr}
def iList (K : PySem.W.Frag) (tl : TE) : TI := fun σ H R => tl σ H fun x H1 => ∃ a, x = .ref a ∧ (∃ xs, SqL K H1 a xs) ∧ R (Itl K a) H1
def iTup (K : PySem.W.Frag) (tl : TE) : TI := fun σ H R => tl σ H fun x H1 => ∃ a, x = .ref a ∧ (∃ xs, SqT K H1 a xs) ∧ R (Itt K a) H1
theorem pi_list {l : Expr} {tl : TE} (hl : PE X l tl) : PI X tg l (iList X.K tl) := by
  intro pins s σ H R I h
  refine thn (hl pins s σ H _ I h) fun v s1 ⟨x, H1, I1, r1, q1⟩ => ?_
  obtain ⟨a, e, ⟨xs, hq⟩, q⟩ := q1
  subst e
  cases r1
  obtain ⟨its, rv, p, hz⟩ := I1.list hq
  refine wpAny_pyIter_list p.isList ?_
  refine ⟨s1.heap.objs.size, [s1.heap.objs.size], _, _, H1, rfl, I1.kept (t' := s1.toks) fun b o e => Heap.get?_push_of_some _ e, turn_list a _, ⟨_, Heap.get?_push_size _ rfl, rfl, rfl⟩, fun b hb => ?_, q⟩
  have e : b = s1.heap.objs.size := by simpa using hb
  subst e
  exact I1.fpOk (Nat.le_refl _) (I1.hok.fresh (Nat.le_refl _))
theorem pi_tup {l : Expr} {tl : TE} (hl : PE X l tl) : PI X tg l (iTup X.K tl) := by
  intro pins s σ H R I h
  refine thn (hl pins s σ H _ I h) fun v s1 ⟨x, H1, I1, r1, q1⟩ => ?_
  obtain ⟨a, e, ⟨xs, hq⟩, q⟩ := q1
  subst e
  cases r1
  obtain ⟨its, rv, p, hz⟩ := I1.tuple hq
  refine wpAny_pyIter_tuple (show s1.heap.IsTuple a its.toArray from p) ?_
  refine ⟨s1.heap.objs.size, [s1.heap.objs.size], _, _, H1, rfl, I1.kept (t' := s1.toks) fun b o e => Heap.get?_push_of_some _ e, turn_tuple a _, ⟨_, Heap.get?_push_size _ rfl, rfl, rfl⟩, fun b hb => ?_, q⟩
  have e : b = s1.heap.objs.size := by simpa using hb
  subst e
  exact I1.fpOk (Nat.le_refl _) (I1.hok.fresh (Nat.le_refl _))
/-- a range object just made, walked -/
theorem range_it {pins : List (Addr × Obj)} {σ : St} {H : Hp} {s : Shared} {R : It → Hp → Prop} {E : Value → Shared → Prop} {lo hi : Int} {t u v : Tok} {tk : Nat} (I : Inv X pins σ H s) (h1 : -(2 ^ 62) ≤ lo) (h2 : lo < 2 ^ 62) (h3 : -(2 ^ 62) ≤ hi) (h4 : hi < 2 ^ 62)
    (q : R (Itr lo (hi - lo).toNat) H) : wpAny (model X.prog X.w) X.A (pyIter (.ref s.heap.objs.size)) (PIE X pins σ tg R) E { s with heap := s.heap.push { cls := .type "range", data := .fields #[.int lo t, .int hi u, .int 1 v] }, toks := tk } := by
  refine wpAny_pyIter_range (IsRange.new ..) (small_one h1 h2 h3 h4) ?_
  have I1 : Inv X pins σ H { s with heap := s.heap.push { cls := .type "range", data := .fields #[.int lo t, .int hi u, .int 1 v] }, toks := tk } := I.kept fun b o e => Heap.get?_push_of_some _ e
  refine ⟨(s.heap.push { cls := .type "range", data := .fields #[.int lo t, .int hi u, .int 1 v] }).objs.size, [(s.heap.push { cls := .type "range", data := .fields #[.int lo t, .int hi u, .int 1 v] }).objs.size], _, _, H, rfl,
    I1.kept (t' := tk) fun b o e => Heap.get?_push_of_some _ e, turn_range _ lo (hi - lo).toNat, ?_, fun b hb => ?_, q⟩
  · have e1 : lo + ((0 : Nat) : Int) * 1 = lo := by simp
    have e2 : (((hi - lo).toNat : Nat) : Int) - ((0 : Nat) : Int) = Builtin.Range.rangeSize lo hi 1 := by rw [rangeSize_one]; split <;> omega
    show IsRangeIter _ _ (lo + ((0 : Nat) : Int) * 1) ((((hi - lo).toNat : Nat) : Int) - ((0 : Nat) : Int)) 1
    rw [e1, e2]
    exact Heap.get?_push_size _ rfl
  · have e : b = (s.heap.push { cls := .type "range", data := .fields #[.int lo t, .int hi u, .int 1 v] }).objs.size := by simpa using hb
    subst e
    exact I1.fpOk (Nat.le_refl _) (I1.hok.fresh (Nat.le_refl _))
def iRng1 (ta : TA) : TI := fun σ H R => ta σ H fun vs H1 => ∃ j : Int, vs = [.int j] ∧ -(2 ^ 62) ≤ j ∧ j < 2 ^ 62 ∧ R (Itr 0 j.toNat) H1
def iRng2 (ta : TA) : TI := fun σ H R => ta σ H fun vs H1 => ∃ i j : Int, vs = [.int i, .int j] ∧ (-(2 ^ 62) ≤ i ∧ i < 2 ^ 62 ∧ -(2 ^ 62) ≤ j ∧ j < 2 ^ 62) ∧ R (Itr i (j - i).toNat) H1
theorem pi_range1 {a : Expr} {ta : TA} {p pos : Pos} (hg : Gl X "range") (hm : X.mg "range" = none) (ha : PA X [a] ta) (hs : starEach [a] X.env = [(false, eval a X.env)] := by rfl) : PI X tg (.Call (.Name "range" p) [a] [] pos) (iRng1 ta) := by
  intro pins s σ H R I h
  refine Call_ (ld_blt I hg hm boot_range (PyProof.Rows.callWith_type1 (thn (ha pos pins s σ H _ I h) fun us s1 ⟨vs, H1, I1, r1, q1⟩ => ?_) hs rfl))
  obtain ⟨j, e, q1, q2, q⟩ := q1
  subst e
  cases r1 with
  | cons r rr =>
    cases rr
    obtain ⟨t, rfl⟩ := r
    exact call_range_1 (range_it I1 (by omega) (by omega) q1 q2 (by simpa using q))
theorem pi_range2 {a b : Expr} {ta : TA} {p pos : Pos} (hg : Gl X "range") (hm : X.mg "range" = none) (ha : PA X [a, b] ta) (hs : starEach [a, b] X.env = [(false, eval a X.env), (false, eval b X.env)] := by rfl) (hs2 : starEach [b] X.env = [(false, eval b X.env)] := by rfl) :
    PI X tg (.Call (.Name "range" p) [a, b] [] pos) (iRng2 ta) := by
  intro pins s σ H R I h
  refine Call_ (ld_blt I hg hm boot_range (PyProof.Rows.callWith_type1 (thn (ha pos pins s σ H _ I h) fun us s1 ⟨vs, H1, I1, r1, q1⟩ => ?_) (by rw [hs, hs2]) (by rw [hs2]; rfl)))
  obtain ⟨i, j, e, ⟨q1, q2, q3, q4⟩, q⟩ := q1
  subst e
  cases r1 with
  | cons r rr =>
    cases rr with
    | cons r' rr =>
      cases rr
      obtain ⟨t, rfl⟩ := r
      obtain ⟨t', rfl⟩ := r'
      exact call_range_2 (range_it I1 q1 q2 q3 q4 q)

/-! ### for -/
/-- W: the invariant by the turn and a measure; N: what the body is to reach -/
def tFor (wi : TI) (g : TG) (tb : TS) : TS := fun D σ H => wi σ H fun J H1 => ∃ W : Nat → Nat → St → Hp → Prop, (∃ m, W 0 m σ H1) ∧ ∀ i m σ H, W i m σ H →
  (J.stop i H ∧ D.nx σ H) ∨ (J.go i H ∧ ∃ N : St → Hp → Prop, (∀ σ' H', N σ' H' → ∃ m', m' < m ∧ W (i + 1) m' σ' H') ∧ ∀ x H', J.yld i H x H' → g x σ H' fun σ2 H2 => tb { D with nx := N, ct := N, bk := D.nx } σ2 H2)
/-- the records at fp as they stand -/
def pinsAt (fp : List Addr) (h : Heap) : List (Addr × Obj) := fp.filterMap fun b => (h.get? b).map fun o => (b, o)
theorem mem_pinsAt {fp : List Addr} {h : Heap} {b : Addr} {o : Obj} (hb : b ∈ fp) (e : h.get? b = some o) : (b, o) ∈ pinsAt fp h := List.mem_filterMap.mpr ⟨b, hb, by rw [e]; rfl⟩
theorem of_pinsAt {fp : List Addr} {h : Heap} {p : Addr × Obj} (hp : p ∈ pinsAt fp h) : p.1 ∈ fp ∧ h.get? p.1 = some p.2 := by
  obtain ⟨b, hb, e⟩ := List.mem_filterMap.mp hp
  cases q : h.get? b with
  | none => rw [q] at e; cases e
  | some o =>
    rw [q] at e
    have e' : (b, o) = p := Option.some.inj e
    subst e'
    exact ⟨hb, q⟩
theorem Inv.pinned {pins : List (Addr × Obj)} {σ : St} {H : Hp} {s : Shared} {fp : List Addr} (I : Inv X pins σ H s) (hf : ∀ b ∈ fp, FpOk X pins H b) (ho : ∀ b ∈ fp, ∃ o, s.heap.get? b = some o ∧ ∀ v, o.data ≠ .cell v) : Inv X (pins ++ pinsAt fp s.heap) σ H s :=
  I.pins_of fun p hp => (List.mem_append.mp hp).elim (fun z => I.pin p (List.mem_append_right _ z)) fun z => by
    obtain ⟨hb, e⟩ := of_pinsAt z
    obtain ⟨f0, f1, f2, _⟩ := hf p.1 hb
    obtain ⟨o, e', d⟩ := ho p.1 hb
    rw [e] at e'; cases e'
    exact ⟨e, f0, f1, f2, d⟩
theorem Inv.unpinned {pins pl : List (Addr × Obj)} {σ : St} {H : Hp} {s : Shared} (I : Inv X (pins ++ pl) σ H s) : Inv X pins σ H s := I.pins_of fun p hp => I.pin p (List.mem_append_right _ (List.mem_append_left _ hp))
theorem ps_for {iter : Expr} {body : List Stmt} {wi : TI} {g : TG} {tb : TS} {pos : Pos} (hp : PassesOwn (model X.prog X.w) X.A X.env X.xe) (hc : X.calm = true) (hi : PI X tg iter wi) (hg : PG X tg g) (hb : PSs X body tb)
    (hs : ∀ x, foldedSetIterable iter X.env x = pure x := by intro _; rfl) : PS X (.For tg iter body [] pos) (tFor wi g tb) := by
  intro pins s σ H D I h
  refine wpAny_For (thn (hi pins s σ H _ I h) fun v s1 h1 => thn h1 fun itv s2 h2 => ?_) hs
  obtain ⟨it, fp, tn, J, H2, e, I2, T, st2, f2, W, ⟨m0, w0⟩, turn⟩ := h2
  subst e
  -- what stays true of the iterator's objects through the loop
  have stat : ∀ {H' : Hp}, (∀ b ∈ fp, H' b = none) → ∀ b ∈ fp, FpOk X pins H' b := fun hn b hb => ⟨hn b hb, (f2 b hb).2⟩
  refine codeAny_forLoop_any (fun n s' => ∃ i σ' H', Inv X pins σ' H' s' ∧ tn i s'.heap ∧ (∀ b ∈ fp, H' b = none) ∧ W i n σ' H') ?_ m0 ⟨0, σ, H2, I2, st2, fun b hb => (f2 b hb).1, w0⟩
  rintro n s3 ⟨i, σ3, H3, I3, st3, fr3, w3⟩
  rcases turn i n σ3 H3 w3 with ⟨stop, qn⟩ | ⟨go, N, hN, step⟩
  · refine wpAny_passesOwn hp (thn (T.done X rfl rfl rfl hc i pins s3 σ3 H3 X.xe I3 (stat fr3) st3 stop) fun r s4 ⟨hr, I4⟩ => ?_)
    subst hr
    exact wpAny_execs_nil ⟨σ3, H3, I4, qn⟩
  · refine wpAny_passesOwn hp (thn (T.item X rfl rfl rfl hc i pins s3 σ3 H3 X.xe I3 (stat fr3) st3 go) fun r s4 ⟨u, hr, h4⟩ => ?_)
    subst hr
    refine wpAny_passesOwn hp (thn h4 fun _ s5 ⟨x, H5, I5, r5, y5, st5, fr5⟩ => ?_)
    have I5' := I5.pinned (stat fr5) (T.obj _ _ st5)
    refine wpAny_passesOwn hp (thn (hg _ s5 σ3 H5 x u _ I5' r5 (step x H5 y5)) fun _ s6 ⟨σ6, H6, I6, q6⟩ => ?_)
    refine wpAny_passesOwn hp (thn (hb _ s6 σ6 H6 _ I6 q6) fun f s7 q7 => ?_)
    have again : ∀ {σ7 : St} {H7 : Hp}, Inv X (pins ++ pinsAt fp s5.heap) σ7 H7 s7 → N σ7 H7 → ∃ m, m < n ∧ ∃ i σ' H', Inv X pins σ' H' s7 ∧ tn i s7.heap ∧ (∀ b ∈ fp, H' b = none) ∧ W i m σ' H' := fun {σ7 H7} I7 n7 => by
      obtain ⟨m', hm, w7⟩ := hN σ7 H7 n7
      refine ⟨m', hm, i + 1, σ7, H7, I7.unpinned, T.keep _ _ _ st5 fun b hb o e => (I7.pin (b, o) (List.mem_append_right _ (List.mem_append_right _ (mem_pinsAt hb e)))).1, fun b hb => ?_, w7⟩
      obtain ⟨o, e, d⟩ := T.obj _ _ st5 b hb
      exact (I7.pin (b, o) (List.mem_append_right _ (List.mem_append_right _ (mem_pinsAt hb e)))).2.1
    cases f with
    | next => obtain ⟨σ7, H7, I7, n7⟩ := q7; exact again I7 n7
    | cont => obtain ⟨σ7, H7, I7, n7⟩ := q7; exact again I7 n7
    | brk => obtain ⟨σ7, H7, I7, q7⟩ := q7; exact ⟨σ7, H7, I7.unpinned, q7⟩
    | ret v => obtain ⟨x7, σ7, H7, I7, r7, q7⟩ := q7; exact ⟨x7, σ7, H7, I7.unpinned, r7, q7⟩
end

/-! ### the forms one uses -/
/-- over a list that the body leaves as it is -/
theorem for_list {K : PySem.W.Frag} {a : Addr} {xs : List V} {g : TG} {tb : TS} {D : Ends} {σ : St} {H : Hp} (Pv : Nat → St → Hp → Prop) (h0 : Pv 0 σ H) (hl : ∀ i σ H, i ≤ xs.length → Pv i σ H → SqL K H a xs)
    (hs : ∀ i x σ H, xs[i]? = some x → Pv i σ H → g x σ H fun σ2 H2 => tb { D with nx := Pv (i + 1), ct := Pv (i + 1), bk := D.nx } σ2 H2) (hd : ∀ σ H, Pv xs.length σ H → D.nx σ H) :
    ∃ W : Nat → Nat → St → Hp → Prop, (∃ m, W 0 m σ H) ∧ ∀ i m σ H, W i m σ H →
      ((Itl K a).stop i H ∧ D.nx σ H) ∨ ((Itl K a).go i H ∧ ∃ N : St → Hp → Prop, (∀ σ' H', N σ' H' → ∃ m', m' < m ∧ W (i + 1) m' σ' H') ∧ ∀ x H', (Itl K a).yld i H x H' → g x σ H' fun σ2 H2 => tb { D with nx := N, ct := N, bk := D.nx } σ2 H2) := by
  refine ⟨fun i m σ H => m = xs.length - i ∧ i ≤ xs.length ∧ Pv i σ H, ⟨xs.length, by simp, Nat.zero_le _, h0⟩, ?_⟩
  rintro i m σ H ⟨rfl, hi, p⟩
  have q := hl i σ H hi p
  by_cases hlt : i < xs.length
  · refine .inr ⟨⟨xs, xs[i], q, by simp [hlt]⟩, Pv (i + 1), fun σ' H' p' => ⟨xs.length - (i + 1), by omega, rfl, hlt, p'⟩, fun x H' y => ?_⟩
    obtain ⟨e, y⟩ := y
    subst e
    exact hs i x σ _ (y xs q) p
  · have e : i = xs.length := by omega
    subst e
    exact .inl ⟨⟨xs, q, Nat.le_refl _⟩, hd σ H p⟩
theorem for_tup {K : PySem.W.Frag} {a : Addr} {xs : List V} {g : TG} {tb : TS} {D : Ends} {σ : St} {H : Hp} (Pv : Nat → St → Hp → Prop) (h0 : Pv 0 σ H) (hl : ∀ i σ H, i ≤ xs.length → Pv i σ H → SqT K H a xs)
    (hs : ∀ i x σ H, xs[i]? = some x → Pv i σ H → g x σ H fun σ2 H2 => tb { D with nx := Pv (i + 1), ct := Pv (i + 1), bk := D.nx } σ2 H2) (hd : ∀ σ H, Pv xs.length σ H → D.nx σ H) :
    ∃ W : Nat → Nat → St → Hp → Prop, (∃ m, W 0 m σ H) ∧ ∀ i m σ H, W i m σ H →
      ((Itt K a).stop i H ∧ D.nx σ H) ∨ ((Itt K a).go i H ∧ ∃ N : St → Hp → Prop, (∀ σ' H', N σ' H' → ∃ m', m' < m ∧ W (i + 1) m' σ' H') ∧ ∀ x H', (Itt K a).yld i H x H' → g x σ H' fun σ2 H2 => tb { D with nx := N, ct := N, bk := D.nx } σ2 H2) := by
  refine ⟨fun i m σ H => m = xs.length - i ∧ i ≤ xs.length ∧ Pv i σ H, ⟨xs.length, by simp, Nat.zero_le _, h0⟩, ?_⟩
  rintro i m σ H ⟨rfl, hi, p⟩
  have q := hl i σ H hi p
  by_cases hlt : i < xs.length
  · refine .inr ⟨⟨xs, xs[i], q, by simp [hlt]⟩, Pv (i + 1), fun σ' H' p' => ⟨xs.length - (i + 1), by omega, rfl, hlt, p'⟩, fun x H' y => ?_⟩
    obtain ⟨e, y⟩ := y
    subst e
    exact hs i x σ _ (y xs q) p
  · have e : i = xs.length := by omega
    subst e
    exact .inl ⟨⟨xs, q, Nat.le_refl _⟩, hd σ H p⟩
theorem for_range {lo : Int} {n : Nat} {g : TG} {tb : TS} {D : Ends} {σ : St} {H : Hp} (Pv : Nat → St → Hp → Prop) (h0 : Pv 0 σ H)
    (hs : ∀ i σ H, i < n → Pv i σ H → g (.int (lo + i)) σ H fun σ2 H2 => tb { D with nx := Pv (i + 1), ct := Pv (i + 1), bk := D.nx } σ2 H2) (hd : ∀ σ H, Pv n σ H → D.nx σ H) :
    ∃ W : Nat → Nat → St → Hp → Prop, (∃ m, W 0 m σ H) ∧ ∀ i m σ H, W i m σ H →
      ((Itr lo n).stop i H ∧ D.nx σ H) ∨ ((Itr lo n).go i H ∧ ∃ N : St → Hp → Prop, (∀ σ' H', N σ' H' → ∃ m', m' < m ∧ W (i + 1) m' σ' H') ∧ ∀ x H', (Itr lo n).yld i H x H' → g x σ H' fun σ2 H2 => tb { D with nx := N, ct := N, bk := D.nx } σ2 H2) := by
  refine ⟨fun i m σ H => m = n - i ∧ i ≤ n ∧ Pv i σ H, ⟨n, by simp, Nat.zero_le _, h0⟩, ?_⟩
  rintro i m σ H ⟨rfl, hi, p⟩
  by_cases hlt : i < n
  · refine .inr ⟨hlt, Pv (i + 1), fun σ' H' p' => ⟨n - (i + 1), by omega, rfl, hlt, p'⟩, fun x H' y => ?_⟩
    obtain ⟨e, y⟩ := y
    subst e y
    exact hs i σ _ hlt p
  · have e : i = n := by omega
    subst e
    exact .inl ⟨Nat.le_refl _, hd σ H p⟩
end L2

namespace L2
open PySem PySem.Spec PyProof.Rows

abbrev R2 := V → V → Hp → VK → Prop
/-- a two-place operation on values: f is binaryOp op, inplaceOp op or compareOp op -/
def OpR (X : Cx) (f : Value → Value → Sem Value) (r : R2) : Prop :=
  ∀ (pins : List (Addr × Obj)) (s : Shared) (σ : St) (H : Hp) (x y : V) (v u : Value) (Q : VK), Inv X pins σ H s → RelV x v → RelV y u → r x y H Q →
    wpAny (model X.prog X.w) X.A (f v u) (EP X pins σ Q) X.xe s
/-- a call of a value that is known (a builtin, a type) with values -/
def CallR (X : Cx) (f : Value) (r : List V → Hp → VK → Prop) : Prop :=
  ∀ (pins : List (Addr × Obj)) (s : Shared) (σ : St) (H : Hp) (xs : List V) (us : List Value) (Q : VK), Inv X pins σ H s → Vals xs us → r xs H Q →
    wpAny (model X.prog X.w) X.A (call f us) (EP X pins σ Q) X.xe s

def tOp (r : R2) (ta tb : TE) : TE := fun σ H Q => ta σ H fun x H1 => tb σ H1 fun y H2 => r x y H2 Q
/-- ints in, under C, and a value out -/
def rI (C : Int → Int → Prop) (g : Int → Int → V) : R2 := fun x y H Q => ∃ i j, x = .int i ∧ y = .int j ∧ C i j ∧ Q (g i j) H
def rI0 (g : Int → Int → V) : R2 := fun x y H Q => ∃ i j, x = .int i ∧ y = .int j ∧ Q (g i j) H

section
variable {X : Cx} {a b c : Expr} {ta tb tc : TE} {pos : Pos}

theorem binT (ha : PE X a ta) (hb : PE X b tb) {pins : List (Addr × Obj)} {s : Shared} {σ : St} {H : Hp} {R : V → V → Hp → Prop} (I : Inv X pins σ H s)
    (h : ta σ H fun x H1 => tb σ H1 fun y H2 => R x y H2) {Q : Value → Shared → Prop} {f : Value → Value → Sem Value}
    (hf : ∀ v u s2 x y H2, Inv X pins σ H2 s2 → RelV x v → RelV y u → R x y H2 → wpAny (model X.prog X.w) X.A (f v u) Q X.xe s2) :
    wpAny (model X.prog X.w) X.A (eval a X.env) (fun v s₁ => wpAny (model X.prog X.w) X.A (eval b X.env) (fun u s₂ => wpAny (model X.prog X.w) X.A (f v u) Q X.xe s₂) X.xe s₁) X.xe s := by
  refine thn (ha pins s σ H _ I h) fun v s1 ⟨x, H1, I1, r1, q1⟩ => ?_
  refine thn (hb pins s1 σ H1 _ I1 q1) fun u s2 ⟨y, H2, I2, r2, q2⟩ => ?_
  exact hf v u s2 x y H2 I2 r1 r2 q2

theorem pe_op {op : Operator} {r : R2} (ho : OpR X (binaryOp op) r) (ha : PE X a ta) (hb : PE X b tb) : PE X (.BinOp a op b pos) (tOp r ta tb) := by
  intro pins s σ H Q I h
  exact wpAny_BinOp (binT ha hb I h fun v u s2 x y H2 I2 rx ry q => ho pins s2 σ H2 x y v u Q I2 rx ry q)

/-! ### ints -/
theorem opI {f : Value → Value → Sem Value} {C : Int → Int → Prop} {g : Int → Int → Int}
    (rule : ∀ (i j : Int) (t u : Tok) (s : Shared) (Q : Value → Shared → Prop) (E : Value → Shared → Prop), C i j → Q (.int (g i j) s.toks) { s with toks := s.toks + 1 } → wpAny (model X.prog X.w) X.A (f (.int i t) (.int j u)) Q E s) :
    OpR X f (rI C fun i j => .int (g i j)) := by
  intro pins s σ H x y v u Q I rx ry h
  obtain ⟨i, j, rfl, rfl, hc, q⟩ := h
  obtain ⟨t, rfl⟩ := rx
  obtain ⟨t', rfl⟩ := ry
  exact rule i j t t' s _ _ hc ⟨.int (g i j), H, I.tok _, ⟨_, rfl⟩, q⟩
theorem opI0 {f : Value → Value → Sem Value} {g : Int → Int → Int}
    (rule : ∀ (i j : Int) (t u : Tok) (s : Shared) (Q : Value → Shared → Prop) (E : Value → Shared → Prop), Q (.int (g i j) s.toks) { s with toks := s.toks + 1 } → wpAny (model X.prog X.w) X.A (f (.int i t) (.int j u)) Q E s) :
    OpR X f (rI0 fun i j => .int (g i j)) := by
  intro pins s σ H x y v u Q I rx ry h
  obtain ⟨i, j, rfl, rfl, q⟩ := h
  obtain ⟨t, rfl⟩ := rx
  obtain ⟨t', rfl⟩ := ry
  exact rule i j t t' s _ _ ⟨.int (g i j), H, I.tok _, ⟨_, rfl⟩, q⟩

def CDiv (i j : Int) : Prop := 0 < j ∧ j < 1073741824
def CMul (i j : Int) : Prop := (-(2 ^ 64) < i ∧ i < 2 ^ 64) ∨ (-(2 ^ 64) < j ∧ j < 2 ^ 64)
theorem CMul.ok {i j : Int} (h : CMul i j) : IntMulOk i j := by
  rcases h with ⟨h1, h2⟩ | ⟨h1, h2⟩
  · exact .of_left (intBits_le_64 h1 h2)
  · exact .of_right (intBits_le_64 h1 h2)

theorem op_add : OpR X (binaryOp .Add) (rI0 fun i j => .int (i + j)) := opI0 fun _ _ _ _ _ _ _ q => add_int q
theorem op_mul : OpR X (binaryOp .Mult) (rI CMul fun i j => .int (i * j)) := opI fun _ _ _ _ _ _ _ hc q => mul_int q hc.ok
/-- // by a positive divisor -/
theorem op_fdiv : OpR X (binaryOp .FloorDiv) (rI CDiv fun i j => .int (i / j)) := opI fun i j _ _ _ _ _ hc q => by
  have h1 : (0 : Int) < j := hc.1
  have h2 : j < 1073741824 := hc.2
  exact floordiv_int (by omega) (by rw [Int.fdiv_eq_ediv_of_nonneg i (by omega)]; exact q) (.inl (PyProof.noPylong_small (by omega)))
/-- % by a positive divisor of any size -/
theorem op_mod : OpR X (binaryOp .Mod) (rI (fun _ j => 0 < j) fun i j => .int (i % j)) := opI fun i j _ _ _ _ _ hc q => by
  have h1 : (0 : Int) < j := hc
  exact mod_int' (by omega) (by rw [Int.fmod_eq_emod_of_nonneg i (by omega)]; exact q)



/-! ### bools among ints: n += (a < b) -/
end

/-! ### comparisons -/


section
variable {X : Cx} {a b c : Expr} {ta tb tc : TE} {pos : Pos}





/-- a reading of a value as a test -/
def tTest (t : TE) : TT := fun σ H Q => t σ H fun x H' => ∃ k, x = .bl k ∧ Q k H'
theorem pt_cmpR {op : CmpOp} {r : R2} (ho : OpR X (compareOp op) r) (ha : PE X a ta) (hb : PE X b tb) (hm : behindInMarks op b = false) : PT X (.Compare a [op] [b] pos) (tTest (tOp r ta tb)) := by
  intro pins s σ H Q I h
  refine wpAny_isTrue_Compare1 (thn (ha pins s σ H _ I h) fun v s1 ⟨x, H1, I1, r1, q1⟩ => thn (hb pins s1 σ H1 _ I1 q1) fun u s2 ⟨y, H2, I2, r2, q2⟩ =>
    thn (ho pins s2 σ H2 x y v u _ I2 r1 r2 q2) fun c s3 ⟨z, H3, I3, r3, k, e, q3⟩ => ?_) hm
  subst e
  cases r3
  exact wpAny_truthy_bool ⟨H3, I3, q3⟩

/-! ### truth -/
theorem line63 : (sizeLine : Nat) < 2 ^ 63 := by rw [sizeLine_eq]; decide

/-! ### strs and bytes -/


/-! ### scalar builtins, by CallR -/
theorem vals1 {x : V} {us : List Value} (r : Vals [x] us) : ∃ u, us = [u] ∧ RelV x u := by
  cases r with
  | cons r1 r2 => cases r2; exact ⟨_, rfl, r1⟩
theorem vals2 {x y : V} {us : List Value} (r : Vals [x, y] us) : ∃ u w', us = [u, w'] ∧ RelV x u ∧ RelV y w' := by
  cases r with
  | cons r1 r2 =>
    cases r2 with
    | cons r3 r4 => cases r4; exact ⟨_, _, rfl, r1, r3⟩
theorem call_max2 (hc : X.calm = true) : CallR X (.builtin "max") (fun xs H Q => ∃ i j, xs = [.int i, .int j] ∧ Q (.int (if j > i then j else i)) H) := by
  intro pins s σ H xs us Q I r h
  obtain ⟨i, j, rfl, q⟩ := h
  obtain ⟨u, w', rfl, ⟨t, rfl⟩, ⟨t', rfl⟩⟩ := vals2 r
  refine max_two_ints (I.ok.hd hc) fun h' tk k => ⟨_, H, I.kept k, ?_, q⟩
  by_cases hj : j > i
  · rw [if_pos hj, if_pos hj]; exact ⟨_, rfl⟩
  · rw [if_neg hj, if_neg hj]; exact ⟨_, rfl⟩
end
end L2

namespace L2
open PySem PySem.Spec PyProof.Rows

/-! ### an instance, its attributes a map -/



section
variable {prog : Program} {w : World} {A : Around} {E : Value → Shared → Prop} {s : Shared} {K : PySem.W.Frag} {x dx C f : Addr} {mA : Str → Option Value} {name : Str} {v : Value}





end

/-! ### the attributes as a list of pairs -/


section
variable {P : Program} {w : World} {H H' : Hp} {h h' : Heap} {a C dx : Addr} {fs fs' : List (Str × V)}
end

/-! ### what of the text a class must have -/

section
variable {X : Cx} {pins : List (Addr × Obj)} {σ : St} {H : Hp} {s : Shared} {a C dx : Addr} {fs : List (Str × V)} {f : Str} {v : V} {A : Around} {E : Value → Shared → Prop}






end

/-! ### readings and rules -/

section
variable {X : Cx} {o e value : Expr} {f : Str} {pos pos' tpos : Pos} {ta tv : TE}

end

/-! ### isinstance -/
section
variable {X : Cx} {pins : List (Addr × Obj)} {σ : St} {H : Hp} {s : Shared} {A : Around} {E : Value → Shared → Prop} {Q : Value → Shared → Prop} {c : Value} {b : Bool}
end
end L2

namespace L2
open PySem PySem.Spec PyProof.Rows

/-! ### room -/
structure Room (k : Nat) (A : Around) : Prop where
  hd : A.handled = none
  dp : A.depth + 3 * k + 5 < recursionLimit
  un : A.units + 16 * k + 200 < cLine
theorem Room.mono {j k : Nat} {A : Around} (r : Room k A) (h : j ≤ k) : Room j A := ⟨r.hd, by have := r.dp; omega, by have := r.un; omega⟩
theorem Room.deeper {k : Nat} {A : Around} (r : Room (k + 1) A) (env : Env) : Room k (A.deeper env) :=
  ⟨r.hd, by have := r.dp; show A.depth + 1 + 3 * k + 5 < _; omega, by have := r.un; show A.units + 3 + 16 * k + 200 < _; omega⟩
theorem Room.depth {k : Nat} {A : Around} (r : Room k A) : A.depth < recursionLimit := by have := r.dp; omega

/-! ### argument lists and displays -/
def tNil : TA := fun _ H Q => Q [] H
def tCons (ta : TE) (tr : TA) : TA := fun σ H Q => ta σ H fun x H1 => tr σ H1 fun xs H2 => Q (x :: xs) H2
section
variable {X : Cx} {e : Expr} {es : List Expr} {te : TE} {t : TA} {pos : Pos}
theorem pa_nil : PA X [] tNil := fun _ _ _ _ H Q I h => Calls.spliced_nil ⟨[], H, I, .nil, h⟩
theorem pa_cons (ha : PE X e te) (hr : PA X es t) (hs : starEach (e :: es) X.env = (false, eval e X.env) :: starEach es X.env := by rfl) : PA X (e :: es) (tCons te t) := by
  intro pos pins s σ H Q I h
  rw [hs]
  show wpAny _ _ (spliced ((false, eval e X.env) :: backTo pos (starEach es X.env))) _ _ s
  refine Calls.spliced_cons (thn (ha pins s σ H _ I h) fun u s1 ⟨x, H1, I1, r1, q1⟩ => ?_)
  exact thn (hr pos pins s1 σ H1 _ I1 q1) fun us s2 ⟨xs, H2, I2, r2, q2⟩ => ⟨x :: xs, H2, I2, .cons r1 r2, q2⟩

/-- a tuple, a list of written items -/
def tTup (t : TA) : TE := fun σ H Q => t σ H fun xs H1 => xs.length ≤ sizeLine ∧ ∀ p, H1 p = none → Q (.ref p) (upd H1 p (.tup xs))
def tLst (t : TA) : TE := fun σ H Q => t σ H fun xs H1 => xs.length ≤ sizeLine ∧ ∀ p, H1 p = none → Q (.ref p) (upd H1 p (.lst xs))
theorem pe_tup {x1} (h : PA X es t) : PE X (.Tuple es x1 pos) (tTup t) := by
  intro pins s σ H Q I hq
  refine wpAny_Tuple_spliced (thn (h pos pins s σ H _ I hq) fun us s1 ⟨xs, H1, I1, r, z, q⟩ => ⟨by rw [← r.length]; exact z, ?_⟩)
  have hf : H1 s1.heap.objs.size = none := I1.hok.fresh (Nat.le_refl _)
  refine ⟨.ref s1.heap.objs.size, upd H1 s1.heap.objs.size (.tup xs), I1.laid (t' := s1.toks) (fun b u e => Heap.get?_push_of_some _ e) (Nat.le_refl _) ?_, rfl, q _ hf⟩
  exact ⟨z, us, r, ⟨_, Heap.get?_push_size _ rfl, rfl, _, rfl⟩⟩
theorem pe_lst (h : PA X es t) : PE X (.List es pos) (tLst t) := by
  intro pins s σ H Q I hq
  refine wpAny_List_spliced (thn (h pos pins s σ H _ I hq) fun us s1 ⟨xs, H1, I1, r, z, q⟩ => ⟨by rw [← r.length]; exact z, ?_⟩)
  have hf : H1 s1.heap.objs.size = none := I1.hok.fresh (Nat.le_refl _)
  refine ⟨.ref s1.heap.objs.size, upd H1 s1.heap.objs.size (.lst xs), I1.laid (t' := s1.toks) (fun b u e => Heap.get?_push_of_some _ e) (Nat.le_refl _) ?_, rfl, q _ hf⟩
  exact ⟨z, us, 0, r, Heap.get?_push_size _ rfl⟩
end

/-! ### what a def promises -/
/-- a def's promise: the bound arguments in the parameters' order, the heap, the wanted end, the wanted exception -/
abbrev Sp := List V → Hp → VK → XK → Prop
/-- how an exception lies behind a call (file 08 gives it): the callers' frames, abstract heap and state ahead of the call, the wish, the exception, the state -/
abbrev CXT := List Env → Hp → Shared → XK → Value → Shared → Prop

/-- the state at a call -/
structure Env0 (P : Program) (w : World) (K : PySem.W.Frag) (mg : Str → Option Value) (base : Heap) (A : Around) (outer : List Env) (s : Shared) (H : Hp) : Prop where
  frames : A.frames = some outer
  mod : Mod K mg base
  bs : ∀ b o, base.get? b = some o → s.heap.get? b = some o ∧ H b = none
  bsz : base.objs.size ≤ s.heap.objs.size
  funs : s.heap.FunFrames base outer
  frf : ∀ b ∈ frs outer, H b = none
  hok : HOk P w H s.heap
  bare : AllBare s.gens
/-- a call's end -/
def CE (outer : List Env) (P : Program) (w : World) (H : Hp) (s : Shared) (Q : VK) (u : Value) (s' : Shared) : Prop :=
  ∃ v H', s'.os = s.os ∧ AllBare s'.gens ∧ Un (frs outer) [] H H' s.heap s'.heap ∧ HOk P w H' s'.heap ∧ RelV v u ∧ Q v H'
def CR (CX : CXT) (outer : List Env) (P : Program) (w : World) (H : Hp) (s : Shared) (Q : VK) (E : XK) (r : Result) (s' : Shared) : Prop :=
  match r with
  | .ok (.ret u) => CE outer P w H s Q u s'
  | .ok _ => False
  | .error e => CX outer H s E e s'
structure FnOk (P : Program) (w : World) (K : PySem.W.Frag) (mg : Str → Option Value) (base : Heap) (CX : CXT) (k : Nat) (f : Addr) (fd : FuncData) (ps : List Str) (sp : Sp) : Prop where
  len : ∀ vs H Q E, sp vs H Q E → vs.length = ps.length
  run : ∀ (A : Around) (outer : List Env) (s : Shared) (H : Hp) (args : Args) (us : List Value) (vs : List V) (Q : VK) (E : XK), Room k A → Env0 P w K mg base A outer s H → BindsTo s fd args (ps.zip us) → Vals vs us → sp vs H Q E →
    codeAny (model P w) A (.call (.ref f) args) (CR CX outer P w H s Q E) s


section
variable {X : Cx} {pins : List (Addr × Obj)} {σ : St} {H : Hp} {s s' : Shared}
/-- from a body: what a callee wants -/
theorem Inv.env0 (I : Inv X pins σ H s) : Env0 X.prog X.w X.K X.mg X.base X.A X.stack s H :=
  ⟨I.ok.frames, I.ok.mod, I.bs, Nat.le_trans I.ok.bsz I.sz, I.stack, I.stkFree, I.hok, I.bare⟩
/-- behind a call -/
theorem Inv.after {Q : VK} {u : Value} (I : Inv X pins σ H s) (h : CE X.stack X.prog X.w H s Q u s') : EP X pins σ Q u s' := by
  obtain ⟨v, H', os, bare, un, hok, r, q⟩ := h
  obtain ⟨hh, g, d, t, os'⟩ := s'
  obtain rfl : os' = s.os := os
  exact ⟨v, H', I.call (h' := hh) (g' := g) (d' := d) (t' := t) (ch := []) un hok bare (fun b z => absurd z (by simp)), r, q⟩
end

/-! ### calls -/
/-- f(..): the written arguments, then the defaults dvs; E: what is wanted of an exception -/
def tCall (sp : Sp) (dvs : List V) (E : XK) (t : TA) : TE := fun σ H Q => t σ H fun vs H1 => sp (vs ++ dvs) H1 Q E

/-- how the parameters are bound: us the positional arguments, kw the keywords' values by name, ds the defaults that fill up -/
def Binds (K : PySem.W.Frag) (fd : FuncData) (ps : List Str) (ds : List Value) : Prop :=
  ∀ (s : Shared) (us : List Value), K.In s.heap → (us ++ ds).length = ps.length → BindsTo s fd ⟨us, []⟩ (ps.zip (us ++ ds))
/-- every parameter is given -/
theorem Binds.all {K : PySem.W.Frag} {fd : FuncData} {ps : List Str} (h : ∀ us : List Value, us.length = ps.length → bindArgs fd ⟨us, []⟩ = pure (ps.zip us)) : Binds K fd ps [] := fun s us _ hl => by
  rw [List.append_nil] at hl ⊢
  exact .of_eq (h us hl)

/-- an exception of a callee reaches what this body wants of exceptions -/
def Passes (CX : CXT) (X : Cx) (E : XK) : Prop := ∀ (pins : List (Addr × Obj)) (σ : St) (H : Hp) (s : Shared) (e : Value) (s' : Shared), Inv X pins σ H s → CX X.stack H s E e s' → X.xe e s'

section
variable {X : Cx} {CX : CXT} {k : Nat} {f C : Addr} {fd : FuncData} {ps : List Str} {sp : Sp} {dvs : List V} {ds : List Value} {E : XK} {x m : Str} {p pos apos : Pos} {e o : Expr} {es : List Expr} {ta : TE} {t : TA}

/-- the callee runs -/
theorem run_fn {pins : List (Addr × Obj)} {σ : St} {H : Hp} {s : Shared} {Q : VK} {us : List Value} {vs : List V} (F : FnOk X.prog X.w X.K X.mg X.base CX k f fd ps sp) (hr : Room k X.A) (hb : Binds X.K fd ps ds) (hd : Vals dvs ds) (hx : Passes CX X E)
    (I : Inv X pins σ H s) (r : Vals vs us) (h : sp (vs ++ dvs) H Q E) : wpAny (model X.prog X.w) X.A (call (.ref f) us) (EP X pins σ Q) X.xe s := by
  have r2 : Vals (vs ++ dvs) (us ++ ds) := r.append hd
  have hl : (us ++ ds).length = ps.length := by rw [← r2.length]; exact F.len _ _ _ _ h
  refine wpAny_call (codeAny_mono (F.run X.A X.stack s H ⟨us, []⟩ (us ++ ds) (vs ++ dvs) Q E hr I.env0 (hb s us I.kIn hl) r2 h) fun r s' hq => ?_)
  cases r with
  | error e => exact hx pins σ H s e s' I hq
  | ok fl =>
    cases fl with
    | ret u => exact I.after hq
    | next => exact False.elim hq
    | brk => exact False.elim hq
    | cont => exact False.elim hq

theorem pe_call (F : FnOk X.prog X.w X.K X.mg X.base CX k f fd ps sp) (hr : Room k X.A) (hg : Gl X x) (hm : X.mg x = some (.ref f)) (hk : PySem.W.keepIn X.K (.ref f) = true) (hb : Binds X.K fd ps ds) (hd : Vals dvs ds) (hx : Passes CX X E)
    (ha : PA X (e :: es) t) (hdb : (x == ("__debug__" : Str)) = false := by decide) (he : starEach (e :: es) X.env = (false, eval e X.env) :: starEach es X.env := by rfl) (hpl : (backTo pos (starEach es X.env)).any (·.1) = false := by rfl) :
    PE X (.Call (.Name x p) (e :: es) [] pos) (tCall sp dvs E t) := by
  intro pins s σ H Q I h
  refine wpAny_Call_Name_kw (ld_glob I hg hm ?_ hdb)
  refine PySem.W.callWith_K (h₀ := X.base) I.ok.mod.kin hk (thn (ha pos pins s σ H _ I h) fun us s1 ⟨vs, H1, I1, r, q⟩ => ⟨I1.kIn, ?_⟩) he hpl
  exact run_fn F hr hb hd hx I1 r q



end

/-! ### keywords -/
section
variable {X : Cx} {CX : CXT} {k : Nat} {f C : Addr} {fd : FuncData} {ps ks : List Str} {sp : Sp} {E : XK} {x m : Str} {p pos apos kpos : Pos} {e o : Expr} {es : List Expr} {kws : List Keyword} {te ta : TE} {t tk : TA} {nm : Option Str}

variable {g : List Value → List Value → List Value} {gV : List V → List V → List V}
end

/-! ### a def's body keeps its promise -/
/-- names: the parameters first -/
structure FnScope (N P : List Str) (sc : Scope) : Prop where
  kind : sc.kind = .function
  co : sc.isCoroutine = false
  gen : sc.isGenerator = false
  nd : N.Nodup
  pre : N.take P.length = P
  par : ∀ x ∈ P, sc.names.lookup x = some .local ∨ sc.names.lookup x = some .cell
  nofree : ∀ y ∈ sc.names, y.2 ≠ .free

theorem bindL_out {kindOf : Str → Option NameKind} {x : Str} : ∀ {binds : List (Str × Value)} {m : Str → Option Value}, (∀ v, (x, v) ∉ binds) → bindL kindOf binds m x = m x
  | [], _, _ => rfl
  | (n, v) :: r, m, h => by
    unfold bindL
    rw [bindL_out fun w hw => h w (List.mem_cons_of_mem _ hw)]
    split
    · have : x ≠ n := by rintro rfl; exact h v List.mem_cons_self
      simp [this]
    · rfl
theorem bindC_out {kindOf : Str → Option NameKind} {x : Str} : ∀ {binds : List (Str × Value)} {m : Str → Option Value}, (∀ v, (x, v) ∉ binds) → bindC kindOf binds m x = m x
  | [], _, _ => rfl
  | (n, v) :: r, m, h => by
    unfold bindC
    rw [bindC_out fun w hw => h w (List.mem_cons_of_mem _ hw)]
    split
    · rfl
    · have : x ≠ n := by rintro rfl; exact h v List.mem_cons_self
      simp [this]
theorem bindL_get {kindOf : Str → Option NameKind} {x : Str} {v : Value} : ∀ {P : List Str} {vs : List Value} {i : Nat} {m : Str → Option Value}, P.Nodup → P[i]? = some x → vs[i]? = some v → kindOf x = some .local →
    bindL kindOf (P.zip vs) m x = some v
  | [], _, _, _, _, h, _, _ => by simp at h
  | _ :: _, [], _, _, _, _, h, _ => by simp at h
  | p :: P, w :: vs, 0, m, nd, h1, h2, hk => by
    simp at h1 h2; subst h1; subst h2
    show bindL kindOf ((p, w) :: P.zip vs) m p = _
    unfold bindL
    rw [bindL_out fun v hv => (List.nodup_cons.mp nd).1 (List.of_mem_zip hv).1, if_pos hk]
    simp
  | p :: P, w :: vs, i + 1, m, nd, h1, h2, hk => by
    show bindL kindOf ((p, w) :: P.zip vs) m x = _
    unfold bindL
    exact bindL_get (i := i) (List.nodup_cons.mp nd).2 (by simpa using h1) (by simpa using h2) hk
theorem bindC_get {kindOf : Str → Option NameKind} {x : Str} {v : Value} : ∀ {P : List Str} {vs : List Value} {i : Nat} {m : Str → Option Value}, P.Nodup → P[i]? = some x → vs[i]? = some v → kindOf x ≠ some .local →
    bindC kindOf (P.zip vs) m x = some v
  | [], _, _, _, _, h, _, _ => by simp at h
  | _ :: _, [], _, _, _, _, h, _ => by simp at h
  | p :: P, w :: vs, 0, m, nd, h1, h2, hk => by
    simp at h1 h2; subst h1; subst h2
    show bindC kindOf ((p, w) :: P.zip vs) m p = _
    unfold bindC
    rw [bindC_out fun v hv => (List.nodup_cons.mp nd).1 (List.of_mem_zip hv).1, if_neg hk]
    simp
  | p :: P, w :: vs, i + 1, m, nd, h1, h2, hk => by
    show bindC kindOf ((p, w) :: P.zip vs) m x = _
    unfold bindC
    exact bindC_get (i := i) (List.nodup_cons.mp nd).2 (by simpa using h1) (by simpa using h2) hk

/-- the names' values at the entry -/
def start (N : List Str) (vs : List V) : St := vs.map some ++ List.replicate (N.length - vs.length) none

/-- the context of a def's body, at its entry; an exception leaves the frame, then lies as CX says -/
def cxOf (CX : CXT) (P : Program) (w : World) (K : PySem.W.Frag) (mg : Str → Option Value) (base : Heap) (N : List Str) (qual : Str) (scope : Scope) (f : Addr) (cd : Value) (A : Around) (outer : List Env) (s : Shared) (H : Hp) (E : XK) : Cx where
  prog := P
  w := w
  K := K
  mg := mg
  base := base
  A := A.deeper (envOfC qual scope s.heap.objs.size f cd)
  N := N
  s_0 := s
  H_0 := H
  env := envOfC qual scope s.heap.objs.size f cd
  outer := outer
  stack := envOfC qual scope s.heap.objs.size f cd :: outer
  ex := []
  calm := true
  fn := fun _ => true
  pn := []
  xe := fun e s' => wpAny (model P w) (A.deeper (envOfC qual scope s.heap.objs.size f cd)) (leaving (envOfC qual scope s.heap.objs.size f cd) e) (fun _ s'' => CX outer H s E e s'') (fun e' s'' => CX outer H s E e' s'') s'

theorem cell_has {sc : Scope} {n : Nat} {x : Str} (h : sc.names.lookup x = some .cell) : ∃ c, (cellsFrom n sc.names []).lookup x = some c := by
  have q := PySem.W.cellsFrom_some sc.names n [] (.inl h)
  exact Option.isSome_iff_exists.mp q

theorem inv_start {CX : CXT} {P : Program} {w : World} {K : PySem.W.Frag} {mg : Str → Option Value} {base : Heap} {N ps : List Str} {qual : Str} {scope : Scope} {f : Addr} {cd : Value} {A : Around} {outer : List Env} {s s1 : Shared} {H : Hp} {E : XK} {us : List Value} {vs : List V}
    (S : FnScope N ps scope) (hd : A.handled = none) (e0 : Env0 P w K mg base A outer s H) (hl : vs.length = ps.length) (r : Vals vs us)
    (x : InCallC s s.heap.objs.size (bindL (envOfC qual scope s.heap.objs.size f cd).kindOf (ps.zip us) fun _ => none) (cellsFrom (s.heap.objs.size + 1) scope.names []) (bindC (envOfC qual scope s.heap.objs.size f cd).kindOf (ps.zip us) fun _ => none) s1) :
    Inv (cxOf CX P w K mg base N qual scope f cd A outer s H E) [] (start N vs) H s1 := by
  have hpl : ps.length ≤ N.length := by have := congrArg List.length S.pre; rw [List.length_take] at this; omega
  obtain ⟨h1, tk, rfl, hk⟩ := x.done
  have noA : ∀ b : Addr, b ∉ (cxOf CX P w K mg base N qual scope f cd A outer s H E).ex := fun b z => absurd (show b ∈ ([] : List Addr) from z) (by simp)
  refine ⟨⟨e0.mod, S.kind, rfl, rfl, Nat.le_refl _, fun y z c h1 h2 => ?_, fun y hy => ?_, fun y c _ h => ?_, fun _ => hd, Around.frames_deeper e0.frames, .inr ⟨rfl, rfl⟩, fun b z => absurd z (noA b), e0.bs, e0.bsz, fun b _ _ => noA b, fun b z => absurd z (noA b), e0.funs, e0.frf⟩,
    rfl, e0.bare, Un.kept hk, ⟨_, x.toInCall.ns, fun i y v h1 h2 h3 => ?_⟩, fun y c h => ⟨_, x.cell y c h⟩, e0.hok.fresh (Nat.le_refl _), fun y c h => ?_, fun p hp => absurd (show p ∈ ([] : List (Addr × Obj)) from hp) (by simp), e0.hok.kept hk, ?_⟩
  · exact name_of_addr x.apart (PySem.mem_of_lookup h1) (PySem.mem_of_lookup h2)
  · have hy : scope.names.lookup y = some .cell ∨ scope.names.lookup y = some .free := hy
    rcases hy with hy | hy
    · exact cell_has hy
    · exact absurd rfl (S.nofree _ (PySem.mem_of_lookup hy))
  · exact Nat.le_of_lt (x.above y c (PySem.mem_of_lookup h))
  · have hi : i < vs.length := by
      unfold start at h2
      by_cases hi : i < vs.length
      · exact hi
      · rw [List.getElem?_append_right (by simpa using hi)] at h2
        rw [List.getElem?_replicate] at h2
        split at h2 <;> cases h2
    have ha : vs[i]? = some v := by
      unfold start at h2
      rw [List.getElem?_append_left (by simpa using hi), List.getElem?_map] at h2
      cases e : vs[i]? with
      | none => rw [e] at h2; cases h2
      | some a => rw [e] at h2; cases h2; rfl
    obtain ⟨u, hu, rv⟩ := r.get ha
    have hp : ps[i]? = some y := by
      rw [← S.pre, List.getElem?_take_of_lt (by omega)]; exact h1
    have ndP : ps.Nodup := by rw [← S.pre]; exact S.nd.sublist (List.take_sublist _ _)
    refine ⟨u, rv, ?_⟩
    rcases S.par y (List.mem_of_getElem? hp) with k | k
    · exact .inl ⟨k, bindL_get ndP hp hu k⟩
    · obtain ⟨c, e⟩ := cell_has (n := s.heap.objs.size + 1) k
      refine .inr ⟨.inl k, c, e, ?_⟩
      have q := x.cell y c e
      rw [bindC_get ndP hp hu (by show scope.names.lookup y ≠ _; rw [k]; decide)] at q
      exact q
  · exact e0.hok.fresh (Nat.le_of_lt (x.above y c (PySem.mem_of_lookup h)))
  · unfold start
    show _ = N.length
    rw [List.length_append, List.length_map, List.length_replicate]
    omega

/-- THE RULE: a def (or a method) of the text, by its body. The body's reading t is chosen for each entry; it is run at the parameters' values -/
theorem fn_of {CX : CXT} {P : Program} {w : World} {K : PySem.W.Frag} {mg : Str → Option Value} {base : Heap} {k : Nat} {f : Addr} {name qual : Str} {params : Arguments} {body : List Stmt} {scope : Scope} {dV kV doc pm cdv ct oc : Value} {an od : Option Addr}
    {osl : Array (Option Value)} {N ps : List Str} {sp : Sp} (lk : K.lookup f = some ⟨oc, od, .func (PySem.W.fnOf name qual params body scope dV kV doc pm an cdv ct), osl⟩) (hcd : PySem.W.codeIn K cdv qual = true) (S : FnScope N ps scope)
    (len : ∀ vs H Q E, sp vs H Q E → vs.length = ps.length)
    (hbody : ∀ (A : Around) (outer : List Env) (s : Shared) (H : Hp) (vs : List V) (Q : VK) (E : XK), Room k (A.deeper (envOfC qual scope s.heap.objs.size f cdv)) → sp vs H Q E →
      ∃ t, PSs (cxOf CX P w K mg base N qual scope f cdv A outer s H E) body t ∧ t { nx := fun _ H' => Q .non H', rt := Q } (start N vs) H) :
    FnOk P w K mg base CX (k + 1) f (PySem.W.fnOf name qual params body scope dV kV doc pm an cdv ct) ps sp := by
  refine ⟨len, fun A outer s H args us vs Q E hr e0 hb r hsp => ?_⟩
  have hl := len _ _ _ _ hsp
  have KX : K.In s.heap := e0.mod.kin.keeps fun b o e => (e0.bs b o e).1
  have lim : s.heap.NoLimit := e0.mod.nolimit.keeps fun b o e => (e0.bs b o e).1
  have hkind : ∀ y ∈ ps.zip us, scope.names.lookup y.1 = some .local ∨ (scope.names.lookup y.1 = some .cell ∧ ((cellsFrom (s.heap.objs.size + 1) scope.names []).lookup y.1).isSome = true) := fun ⟨n, v⟩ hy => by
    rcases S.par n (List.of_mem_zip hy).1 with q | q
    · exact .inl q
    · exact .inr ⟨q, PySem.W.cellsFrom_some _ _ _ (.inl q)⟩
  refine codeAny_call_function hr.depth (KX _ _ lk) rfl S.co S.gen rfl (PySem.W.codeRec_of KX hcd) (hb _ _ _ _ ?_)
  refine wpAny_newFunctionEnv_cells S.kind hkind fun env he s1 x => ?_
  subst he
  refine ⟨lim.keeps x.toInCall.keep, codeAny_func ?_⟩
  obtain ⟨t, ht, hq⟩ := hbody A outer s H vs Q E (hr.deeper _) hsp
  have I : Inv (cxOf CX P w K mg base N qual scope f cdv A outer s H E) [] (start N vs) H s1 := inv_start S hr.hd e0 hl r x
  refine wpAny_mono (ht [] s1 (start N vs) H _ I hq) (fun fl s' hs => ?_) fun e s' hs => hs
  have fin : ∀ {σ' : St} {H' : Hp} {v : V} {u : Value}, Inv (cxOf CX P w K mg base N qual scope f cdv A outer s H E) [] σ' H' s' → RelV v u → Q v H' → CE outer P w H s Q u s' :=
    fun {σ' H' v u} J rv q => ⟨v, H', J.os, J.bare, J.base, J.hok, rv, q⟩
  cases fl with
  | ret u =>
    obtain ⟨v, σ', H', J, rv, q⟩ := hs
    exact fin J rv q
  | next =>
    obtain ⟨σ', H', J, q⟩ := hs
    exact fin (v := V.non) (u := Value.none) J rfl q
  | brk =>
    obtain ⟨_, _, _, q⟩ := hs
    exact False.elim q
  | cont =>
    obtain ⟨_, _, _, q⟩ := hs
    exact False.elim q
end L2

namespace L2
open PySem PySem.Spec PyProof.Rows
section
variable {X : Cx} {x : Str} {p pos : Pos} {e : Expr} {es : List Expr} {t : TA} {id T : String} {r : List V → Hp → VK → Prop}

def tCB (r : List V → Hp → VK → Prop) (t : TA) : TE := fun σ H Q => t σ H fun vs H1 => r vs H1 Q
/-- f(e, ..), f a built-in function -/
theorem pe_callB (hc : CallR X (.builtin id) r) (hg : Gl X x) (hm : X.mg x = none) (hv : bootBuiltins x = some (.builtin id)) (ha : PA X (e :: es) t) (hn : x ≠ "__name__" := by decide) (hdb : (x == ("__debug__" : Str)) = false := by decide)
    (he : starEach (e :: es) X.env = (false, eval e X.env) :: starEach es X.env := by rfl) (hpl : (backTo pos (starEach es X.env)).any (·.1) = false := by rfl) : PE X (.Call (.Name x p) (e :: es) [] pos) (tCB r t) := by
  intro pins s σ H Q I h
  refine wpAny_Call_Name_kw (ld_blt I hg hm hv ?_ hn hdb)
  exact PyProof.Rows.callWith_builtin1 (thn (ha pos pins s σ H _ I h) fun us s1 ⟨vs, H1, I1, r1, q1⟩ => hc pins s1 σ H1 vs us Q I1 r1 q1) he hpl
end
end L2

namespace HT
open PySem PyProof.Rows



section
open PySem.SeqAt
open PySem.AutoSeq1 (wpAny_loadPart')
open PySem.MeetsSeq PySem.MeetsSeq2 PySem.MeetsSeq3

end

section
variable {prog : Program} {w : World} {A : Around} {E : Value → Shared → Prop} {s : Shared}



/-! ### t[a:b], not the whole -/

end
end HT

namespace L2
open PySem PySem.Spec PyProof.Rows

/-! ### the parts of a slice -/


section
variable {X : Cx} {e : Expr} {te : TE} {lo hi : Option Expr} {tl th : TO} {pos p2 : Pos}




/-! ### t < u, t + u -/
end
end L2

namespace L2
open PySem PySem.Spec PyProof.Rows

/-! ### places -/
/-- the place that an index of any sign means -/
def ixN (n : Nat) (i : Int) : Option Nat := if 0 ≤ i then (if i < n then some i.toNat else none) else if -(n : Int) ≤ i then some (i + n).toNat else none
def atI {α : Type} (xs : List α) (i : Int) : Option α := (ixN xs.length i).bind fun j => xs[j]?
theorem ixN_seq {n : Nat} {i : Int} {j : Nat} (h : ixN n i = some j) : seqIndex? i n = some j ∧ j < n ∧ -(n : Int) ≤ i ∧ i < n := by
  unfold ixN at h
  by_cases h0 : 0 ≤ i
  · rw [if_pos h0] at h
    by_cases h1 : i < n
    · rw [if_pos h1] at h
      have e : i.toNat = j := Option.some.inj h
      exact ⟨by rw [seqIndex_of h0 h1, e], by omega, by omega, h1⟩
    · rw [if_neg h1] at h; cases h
  · rw [if_neg h0] at h
    by_cases h1 : -(n : Int) ≤ i
    · rw [if_pos h1] at h
      have e : (i + n).toNat = j := Option.some.inj h
      exact ⟨by rw [seqIndex_neg (by omega) h1, e], by omega, h1, by omega⟩
    · rw [if_neg h1] at h; cases h
theorem atI_get {α : Type} {xs : List α} {i : Int} {v : α} (h : atI xs i = some v) : ∃ j, seqIndex? i xs.length = some j ∧ xs[j]? = some v ∧ j < xs.length ∧ -(xs.length : Int) ≤ i ∧ i < xs.length := by
  unfold atI at h
  cases e : ixN xs.length i with
  | none => rw [e] at h; cases h
  | some j =>
    rw [e] at h
    obtain ⟨h1, h2, h3, h4⟩ := ixN_seq e
    exact ⟨j, h1, h, h2, h3, h4⟩
theorem atI_nat {α : Type} {xs : List α} {j : Nat} {v : α} (h : xs[j]? = some v) : atI xs (j : Int) = some v := by
  have hj : j < xs.length := (List.getElem?_eq_some_iff.mp h).1
  have e : ixN xs.length (j : Int) = some j := by
    unfold ixN
    rw [if_pos (by omega), if_pos (by omega)]; simp
  unfold atI; rw [e]; exact h

/-! ### what may be subscripted -/
/-- what stands as an index of a plain subscript -/
def PlainIx (b : Expr) : Prop := ∀ o i, subscripted b false o i = operate [o, i] (getItem o i)
/-- a subscript by values -/
def IxR (X : Cx) (r : R2) : Prop :=
  ∀ (value slice : Expr) (pins : List (Addr × Obj)) (s : Shared) (σ : St) (H : Hp) (x y : V) (v u : Value) (Q : VK), Inv X pins σ H s → RelV x v → RelV y u → r x y H Q →
    subscripted slice false v u = operate [v, u] (getItem v u) → wpAny (model X.prog X.w) X.A (subscriptTail value slice v u) (EP X pins σ Q) X.xe s
/-- a call of a builtin's method by values: the receiver, the arguments -/
def MtR (X : Cx) (id : String) (r : V → List V → Hp → VK → Prop) : Prop :=
  ∀ (pins : List (Addr × Obj)) (s : Shared) (σ : St) (H : Hp) (x : V) (xs : List V) (v : Value) (us : List Value) (Q : VK), Inv X pins σ H s → RelV x v → Vals xs us → r x xs H Q →
    wpAny (model X.prog X.w) X.A (call (.builtin id) (v :: us)) (EP X pins σ Q) X.xe s
section
variable {X : Cx} {a b : Expr} {ta tb : TE} {pos : Pos}
/-- a[b] -/
theorem pe_ix {r : R2} (hr : IxR X r) (ha : PE X a ta) (hb : PE X b tb) (hs : PlainIx b) : PE X (.Subscript a b pos) (tOp r ta tb) := by
  intro pins s σ H Q I h
  exact Subscript_ (binT ha hb I h fun v u s2 x y H2 I2 rx ry q => hr a b pins s2 σ H2 x y v u Q I2 rx ry q (hs _ _))

def rIxL (K : PySem.W.Frag) : R2 := fun x y H Q => ∃ p xs i v, x = .ref p ∧ y = .int i ∧ SqL K H p xs ∧ atI xs i = some v ∧ Q v H
def rIxT (K : PySem.W.Frag) : R2 := fun x y H Q => ∃ p xs i v, x = .ref p ∧ y = .int i ∧ SqT K H p xs ∧ atI xs i = some v ∧ Q v H
theorem ix_list : IxR X (rIxL X.K) := by
  intro value slice pins s σ H x y v u Q I rx ry h hs
  obtain ⟨p, xs, i, z, rfl, rfl, hq, he, q⟩ := h
  cases rx
  obtain ⟨t, rfl⟩ := ry
  obtain ⟨its, r, pl, hz⟩ := I.list hq
  obtain ⟨j, h1, h2, h3, h4, h5⟩ := atI_get he
  obtain ⟨w, ew, rw'⟩ := r.get h2
  have hl := r.length
  have hn := line63
  have fin : EP X pins σ Q w s := ⟨z, H, I, rw', q⟩
  by_cases h0 : 0 ≤ i
  · have hj : i.toNat = j := by
      rw [seqIndex_of h0 h5] at h1
      exact Option.some.inj h1
    exact item_listR pl.isList h0 (by omega) (by rw [hj]; simpa using ew) fin hs
  · have hj : (i + (its.toArray.size : Int)).toNat = j := by
      rw [seqIndex_neg (by omega) h4] at h1
      rw [List.size_toArray, ← hl]
      exact Option.some.inj h1
    exact subscriptTail_builtinR (x := w) pl.isList.typeIs slot_list_getitem.lookup
      (wpAny_getItem_list_neg (Q := fun r s' => r = w ∧ EP X pins σ Q r s') pl.isList (by omega) (by rw [List.size_toArray] <;> omega) (by omega) (by rw [hj]; simpa using ew) ⟨rfl, fin⟩) hs
theorem ix_tup : IxR X (rIxT X.K) := by
  intro value slice pins s σ H x y v u Q I rx ry h hs
  obtain ⟨p, xs, i, z, rfl, rfl, hq, he, q⟩ := h
  cases rx
  obtain ⟨t, rfl⟩ := ry
  obtain ⟨its, r, pl, hz⟩ := I.tuple hq
  obtain ⟨j, h1, h2, h3, h4, h5⟩ := atI_get he
  obtain ⟨w, ew, rw'⟩ := r.get h2
  have hl := r.length
  have hn := line63
  have fin : EP X pins σ Q w s := ⟨z, H, I, rw', q⟩
  exact subscriptTail_builtinR (x := w) pl.typeIs slot_tuple_getitem.lookup
    (getItem_tuple (j := j) (Q := fun r s' => r = w ∧ EP X pins σ Q r s') pl (by omega) (by omega) (by rw [List.size_toArray, ← hl]; exact h1) (by simpa using ew) ⟨rfl, fin⟩) hs

/-! ### xs[i] = v, any sign -/
/-- the list's object behind a store -/
theorem mapSeq_set (its : List Value) (n j : Nat) (u : Value) : Obj.mapSeq (·.setIfInBounds j u) { cls := .type "list", data := .seq its.toArray n } = { cls := .type "list", data := .seq (its.set j u).toArray n } := by
  simp [Obj.mapSeq]
theorem Inv.lst {pins : List (Addr × Obj)} {σ : St} {H : Hp} {s : Shared} {p : Addr} {xs : List V} (I : Inv X pins σ H s) (h : H p = some (.lst xs)) :
    ∃ (its : List Value) (n : Nat), Vals xs its ∧ s.heap.get? p = some { cls := .type "list", data := .seq its.toArray n } ∧ xs.length ≤ sizeLine := by
  obtain ⟨z, its, n, r, e⟩ := I.hok p _ h
  exact ⟨its, n, r, e, z⟩
/-- the list at p is written by an update of its object -/
theorem Inv.lstUpd {pins : List (Addr × Obj)} {σ : St} {H : Hp} {s : Shared} {p : Addr} {xs ys : List V} {its its' : List Value} {n n' : Nat} {f : Obj → Obj} (I : Inv X pins σ H s) (h : H p = some (.lst xs))
    (ho : s.heap.get? p = some { cls := .type "list", data := .seq its.toArray n }) (hf : f { cls := .type "list", data := .seq its.toArray n } = { cls := .type "list", data := .seq its'.toArray n' }) (r : Vals ys its') (hz : ys.length ≤ sizeLine) (t : Nat) :
    Inv X pins σ (upd H p (.lst ys)) { s with heap := s.heap.update p f, toks := t } := by
  have e : (s.heap.update p f).get? p = some { cls := .type "list", data := .seq its'.toArray n' } := by
    rw [Heap.get?_update_self f ho (by rw [hf] <;> rfl), hf]
  refine I.write (x := p) (e := p) (by rw [h]; trivial) (.inl rfl) (fun b u hb q => (Heap.get?_update_other _ _ (Ne.symm hb)).trans q) ⟨_, e⟩ ?_
  exact ⟨hz, its', n', r, e⟩
def rSetL : V → V → V → Hp → (Hp → Prop) → Prop := fun o i v H Q => ∃ p xs k j, o = .ref p ∧ i = .int k ∧ H p = some (.lst xs) ∧ ixN xs.length k = some j ∧ Q (upd H p (.lst (xs.set j v)))
theorem set_list : PSet X rSetL := by
  intro pins s σ H o i v ov iv u Q I ro ri rv h
  obtain ⟨p, xs, k, j, rfl, rfl, hp, hj, q⟩ := h
  cases ro
  obtain ⟨t, rfl⟩ := ri
  obtain ⟨its, n, r, ho, hz⟩ := I.lst hp
  obtain ⟨h1, h2, h3, h4⟩ := ixN_seq hj
  have hl := r.length
  have hn := line63
  have I' : Inv X pins σ (upd H p (.lst (xs.set j v))) { s with heap := s.heap.update p (Obj.mapSeq (·.setIfInBounds j u)) } :=
    I.lstUpd hp ho (mapSeq_set its n j u) (r.set rv j) (by rw [List.length_set]; exact hz) s.toks
  by_cases h0 : 0 ≤ k
  · have hk : k.toNat = j := by
      rw [seqIndex_of h0 h4] at h1
      exact Option.some.inj h1
    exact PySem.W.ki_setAt ho h0 (by omega) (by rw [List.size_toArray, ← hl]; exact h4) (by rw [hk]; exact ⟨_, I', q⟩)
  · have hk : (k + (its.toArray.size : Int)).toNat = j := by
      rw [seqIndex_neg (by omega) h3] at h1
      rw [List.size_toArray, ← hl]
      exact Option.some.inj h1
    exact PySem.W.ki_setBack ho (by omega) (by rw [List.size_toArray, ← hl]; exact h3) (by omega) (by rw [hk]; exact ⟨_, I', q⟩)

/-! ### slices -/

/-! ### in, not in: flat items -/
def flatV : V → Bool
  | .non => true
  | .bl _ => true
  | .int _ => true
  | .str _ => true
  | _ => false
/-- == of flat values -/
def eqV : V → V → Bool
  | .non, .non => true
  | .bl a, .bl b => a == b
  | .bl a, .int b => (if a then 1 else 0) == b
  | .int a, .bl b => a == (if b then 1 else 0)
  | .int a, .int b => a == b
  | .str a, .str b => a == b
  | _, _ => false
theorem eqAt_V {A : Around} {s : Shared} {y x : V} {u v : Value} (ry : RelV y u) (rx : RelV x v) (fy : flatV y = true) (fx : flatV x = true) : SeqAt.EqAt A s u v (eqV y x) := by
  cases y with
  | non =>
    cases ry
    cases x with
    | non => cases rx; exact SeqAt.EqAt.same _
    | bl b => cases rx; exact SeqAt.EqAt.none_bool b
    | int b => obtain ⟨t, rfl⟩ := rx; exact SeqAt.EqAt.none_int b t
    | str b => obtain ⟨t, rfl⟩ := rx; exact SeqAt.EqAt.none_str b t
    | _ => exact absurd (show false = true from fx) Bool.false_ne_true
  | bl a =>
    cases ry
    cases x with
    | non => cases rx; exact SeqAt.EqAt.bool_none a
    | bl b => cases rx; exact SeqAt.EqAt.bool_bool a b
    | int b => obtain ⟨t, rfl⟩ := rx; exact SeqAt.EqAt.bool_int a b t
    | str b => obtain ⟨t, rfl⟩ := rx; exact SeqAt.EqAt.bool_str a b t
    | _ => exact absurd (show false = true from fx) Bool.false_ne_true
  | int a =>
    obtain ⟨t', rfl⟩ := ry
    cases x with
    | non => cases rx; exact SeqAt.EqAt.int_none a t'
    | bl b => cases rx; exact SeqAt.EqAt.int_bool a t' b
    | int b => obtain ⟨t, rfl⟩ := rx; exact SeqAt.EqAt.int_int a t' b t
    | str b => obtain ⟨t, rfl⟩ := rx; exact SeqAt.EqAt.int_str a t' b t
    | _ => exact absurd (show false = true from fx) Bool.false_ne_true
  | str a =>
    obtain ⟨t', rfl⟩ := ry
    cases x with
    | non => cases rx; exact SeqAt.EqAt.str_none a t'
    | bl b => cases rx; exact SeqAt.EqAt.str_bool a t' b
    | int b => obtain ⟨t, rfl⟩ := rx; exact SeqAt.EqAt.str_int a t' b t
    | str b => obtain ⟨t, rfl⟩ := rx; exact SeqAt.EqAt.str_str a t' b t
    | _ => exact absurd (show false = true from fx) Bool.false_ne_true
  | _ => exact absurd (show false = true from fy) Bool.false_ne_true
/-- the items' answers, read off the values (a value's own answer does not lean on its token) -/
def eqU (x : V) (u : Value) : Bool := match u with
  | .none => eqV .non x
  | .bool b => eqV (.bl b) x
  | .int i _ => eqV (.int i) x
  | .str z _ => eqV (.str z) x
  | _ => false
theorem eqU_of {x y : V} {u : Value} (r : RelV y u) (f : flatV y = true) : eqU x u = eqV y x := by
  cases y with
  | non => cases r; rfl
  | bl b => cases r; rfl
  | int i => obtain ⟨t, rfl⟩ := r; rfl
  | str z => obtain ⟨t, rfl⟩ := r; rfl
  | _ => exact absurd (show false = true from f) Bool.false_ne_true
theorem any_eqU {x : V} : ∀ {xs : List V} {us : List Value}, Vals xs us → xs.all flatV = true → us.any (eqU x) = xs.any fun y => eqV y x
  | _, _, .nil, _ => rfl
  | y :: xs, u :: us, .cons r t, f => by
    rw [List.all_cons, Bool.and_eq_true] at f
    rw [List.any_cons, List.any_cons, eqU_of r f.1, any_eqU t f.2]
theorem mem_eqAt {A : Around} {s : Shared} {x : V} {v : Value} (rx : RelV x v) (fx : flatV x = true) : ∀ {xs : List V} {us : List Value}, Vals xs us → xs.all flatV = true → ∀ u ∈ us, SeqAt.EqAt A s u v (eqU x u)
  | _, _, .nil, _ => fun u hu => by cases hu
  | y :: xs, u :: us, .cons r t, f => fun u' hu => by
    rw [List.all_cons, Bool.and_eq_true] at f
    rcases List.mem_cons.mp hu with rfl | hu
    · rw [eqU_of r f.1]; exact eqAt_V r rx f.1 fx
    · exact mem_eqAt rx fx t f.2 u' hu
def inV (x : V) (xs : List V) : Bool := xs.any fun y => eqV y x
/-- x in a list or tuple of flat items -/
def rIn (K : PySem.W.Frag) (neg : Bool) : R2 := fun x y H Q => ∃ p xs, y = .ref p ∧ (SqL K H p xs ∨ SqT K H p xs) ∧ flatV x = true ∧ xs.all flatV = true ∧ Q (.bl (if neg then !inV x xs else inV x xs)) H
theorem op_notIn_seq : OpR X (compareOp .NotIn) (rIn X.K true) := by
  intro pins s σ H x y v u Q I rx ry h
  obtain ⟨p, xs, rfl, hq, fx, fs, q⟩ := h
  cases ry
  rcases hq with hq | hq
  · obtain ⟨its, r, pl, hz⟩ := I.list hq
    refine SeqAt.notIn_listAt (eqU x) pl.isList (fun w hw => mem_eqAt rx fx r fs w (by simpa using hw)) ⟨.bl _, H, I, rfl, ?_⟩
    rw [show its.toArray.any (eqU x) = its.any (eqU x) by simp, any_eqU r fs]
    exact q
  · obtain ⟨its, r, pl, hz⟩ := I.tuple hq
    refine SeqAt.notIn_tupleAt (eqU x) pl (fun w hw => mem_eqAt rx fx r fs w (by simpa using hw)) ⟨.bl _, H, I, rfl, ?_⟩
    rw [show its.toArray.any (eqU x) = its.any (eqU x) by simp, any_eqU r fs]
    exact q

/-! ### len, list(x), tuple(x) of any list or tuple that is read -/
theorem call_len_seq : CallR X (.builtin "len") (fun xs H Q => ∃ p ys, xs = [.ref p] ∧ (SqL X.K H p ys ∨ SqT X.K H p ys) ∧ Q (.int ys.length) H) := by
  intro pins s σ H xs us Q I r h
  obtain ⟨p, ys, rfl, hq, q⟩ := h
  obtain ⟨u, rfl, rx⟩ := vals1 r
  cases rx
  have hn := line63
  rcases hq with hq | hq
  · obtain ⟨its, r', pl, hz⟩ := I.list hq
    have hlen := r'.length
    exact Calls.call_len_list pl.isList (by simp only [List.size_toArray] <;> omega) ⟨.int ys.length, H, I.tok _, ⟨s.toks + 1, by rw [List.size_toArray, hlen]⟩, q⟩
  · obtain ⟨its, r', pl, hz⟩ := I.tuple hq
    have hlen := r'.length
    exact len_tuple pl (by simp only [List.size_toArray] <;> omega) ⟨.int ys.length, H, I.tok _, ⟨s.toks + 1, by rw [List.size_toArray, hlen]⟩, q⟩

/-! ### the call of a builtin's method: o.m(..) -/
/-- the value is of that builtin type -/
def tyV (K : PySem.W.Frag) (T : String) (x : V) (H : Hp) : Prop := match x with
  | .str _ => T = "str"
  | .int _ => T = "int"
  | .ref p => (T = "list" ∧ ∃ xs, SqL K H p xs) ∨ (T = "tuple" ∧ ∃ o, K.lookup p = some o ∧ o.cls = .type "tuple" ∧ o.dict = none) ∨
      (T = "dict" ∧ ((∃ kvs, H p = some (.dK kvs)) ∨ ∃ kvs, H p = some (.dT kvs))) ∨ (T = "set" ∧ ∃ S n, H p = some (.set S n))
  | _ => False
theorem tyV_is {pins : List (Addr × Obj)} {σ : St} {H : Hp} {s : Shared} {T : String} {x : V} {v : Value} (I : Inv X pins σ H s) (r : RelV x v) (ty : tyV X.K T x H) :
    s.TypeIs v T ∧ ∀ a, v = .ref a → ∃ ob, s.heap.get? a = some ob ∧ ob.dict = none := by
  cases x with
  | str z =>
    obtain ⟨t, rfl⟩ := r
    cases (show T = "str" from ty)
    exact ⟨typeIs_str s z t, fun _ e => nomatch e⟩
  | int i =>
    obtain ⟨t, rfl⟩ := r
    cases (show T = "int" from ty)
    exact ⟨typeIs_int s i t, fun _ e => nomatch e⟩
  | ref p =>
    cases r
    rcases ty with ⟨rfl, xs, hq⟩ | ⟨rfl, o, hk, hc, hd⟩ | ⟨rfl, hk⟩ | ⟨rfl, S, n, hk⟩
    · obtain ⟨its, _, pl, _⟩ := I.list hq
      refine ⟨pl.isList.typeIs, fun a e => ?_⟩
      cases e
      obtain ⟨o, n, e, c, hd, _⟩ := pl
      exact ⟨o, e, hd⟩
    · refine ⟨⟨o, I.kIn p o hk, hc⟩, fun a e => ?_⟩
      cases e
      exact ⟨o, I.kIn _ o hk, hd⟩
    · have z : ∃ o, s.heap.get? p = some o ∧ o.ExactDict := by
        rcases hk with ⟨kvs, hk⟩ | ⟨kvs, hk⟩
        · obtain ⟨_, _, _, _, o, _, _, e, ex, _⟩ := I.hok p _ hk
          exact ⟨o, e, ex⟩
        · obtain ⟨_, _, _, _, o, _, _, e, ex, _⟩ := I.hok p _ hk
          exact ⟨o, e, ex⟩
      obtain ⟨o, e, ex⟩ := z
      refine ⟨⟨o, e, ex.1⟩, fun a e2 => ?_⟩
      cases e2
      exact ⟨o, e, ex.2.1⟩
    · obtain ⟨o, _, _, _, e, ex, _⟩ := I.hok p _ hk
      refine ⟨⟨o, e, ex.1⟩, fun a e2 => ?_⟩
      cases e2
      exact ⟨o, e, ex.2.1⟩
  | _ => exact False.elim ty
def tBM (K : PySem.W.Frag) (T : String) (r : V → List V → Hp → VK → Prop) (to : TE) (t : TA) : TE := fun σ H Q => to σ H fun x H1 => tyV K T x H1 ∧ t σ H1 fun xs H2 => r x xs H2 Q
variable {o e : Expr} {es : List Expr} {to : TE} {t : TA} {name : Str} {apos cpos : Pos} {T id : String} {r : V → List V → Hp → VK → Prop}
theorem pe_bm (pa : PlainAttrs T) (slot : Slot T name id) (hty : typeOf (.builtin id) = pure (.type "method_descriptor")) (hm : MtR X id r) (ho : PE X o to) (ha : PA X (e :: es) t)
    (hbase : attributeBase o name X.env (eval o X.env) = eval o X.env := by rfl)
    (hfew : ((backTo cpos (starEach (e :: es) X.env)).all (fun x => !x.1) && (backToKw cpos (keywordEach [] X.env)).all (fun x => x.1.isSome)
      && decide ((e :: es).length + ([] : List Keyword).length + (if ([] : List Keyword).isEmpty then 0 else 1) < 30)) = true := by rfl)
    (hline : (apos.endLine == cpos.line) = true := by rfl) (hs : starEach (e :: es) X.env = (false, eval e X.env) :: starEach es X.env := by rfl) (hplain : (backTo cpos (starEach es X.env)).any (·.1) = false := by rfl) :
    PE X (.Call (.Attribute o name apos) (e :: es) [] cpos) (tBM X.K T r to t) := by
  intro pins s σ H Q I h
  refine wpAny_Call_method_late hbase hfew hline rfl (thn (ho pins s σ H _ I h) fun v s1 ⟨x, H1, I1, r1, ty, q1⟩ => ?_)
  obtain ⟨h1, h2⟩ := tyV_is I1 r1 ty
  refine ⟨T, id, pa, slot, hty, h1, h2, ?_⟩
  have hA := ha cpos pins s1 σ H1 _ I1 q1
  rw [hs] at hA ⊢
  refine Calls.callWith_builtin (by show (false || (backTo cpos (starEach es X.env)).any (·.1)) = false; rw [hplain] <;> rfl) (Calls.evalArgs_plain ?_)
  exact thn hA fun us s2 ⟨vs, H2, I2, r2, q2⟩ => hm pins s2 σ H2 x vs v us Q I2 r1 r2 q2
/- xs.append(e), list.index on a module's tuple .. are MtR facts of 06m -/
end
end L2

namespace L2
open PySem PySem.Spec PyProof.Rows

def MtM (X : Cx) (id : String) (r : V → List V → Hp → VK → Prop) : Prop :=
  ∀ (pins : List (Addr × Obj)) (s : Shared) (σ : St) (H : Hp) (x : V) (xs : List V) (v : Value) (us : List Value) (Q : VK), Inv X pins σ H s → RelV x v → Vals xs us → r x xs H Q →
    wpAny (model X.prog X.w) X.A (call (.builtin id) (v :: us)) (EP X pins σ Q) X.xe s

/-! ### lists of values -/
theorem Vals.one : ∀ {x : V} {us : List Value}, Vals [x] us → ∃ u, us = [u] ∧ RelV x u
  | _, _, .cons r .nil => ⟨_, rfl, r⟩

section
variable {X : Cx} {pins : List (Addr × Obj)} {σ : St} {H : Hp} {s : Shared} {l b : Addr} {xs ys zs : List V}

/-! ### the two steps: a tracked list is rewritten, a new list is laid -/
theorem Inv.lset {its its' : List Value} {n : Nat} {f : Array Value → Array Value} {t' : Nat} (I : Inv X pins σ H s) (hH : H l = some (.lst xs))
    (e : s.heap.get? l = some { cls := .type "list", data := .seq its.toArray n }) (hf : f its.toArray = its'.toArray) (hv : Vals ys its') (hz : ys.length ≤ sizeLine) :
    Inv X pins σ (upd H l (.lst ys)) { s with heap := s.heap.update l (Obj.mapSeq f), toks := t' } := by
  have q := PySem.IsL.update e f
  rw [hf] at q
  refine I.write (x := l) (e := l) (by rw [hH]; exact trivial) (.inl rfl) (fun b' u hb hu => (Heap.get?_update_other s.heap (Obj.mapSeq f) (Ne.symm hb)).trans hu) ⟨_, q⟩ ?_
  exact ⟨hz, its', _, hv, q⟩
theorem Inv.lstM (I : Inv X pins σ H s) (hH : H l = some (.lst xs)) : xs.length ≤ sizeLine ∧ ∃ (its : List Value) (n : Nat), Vals xs its ∧ xs.length = its.length ∧ s.heap.get? l = some { cls := .type "list", data := .seq its.toArray n } := by
  obtain ⟨z, its, n, r, e⟩ := I.hok l _ hH
  exact ⟨z, its, n, r, r.length, e⟩

end

section
variable {X : Cx}

/-! ### methods -/
def rAppend : V → List V → Hp → VK → Prop := fun x vs H Q => ∃ l xs y, x = .ref l ∧ vs = [y] ∧ H l = some (.lst xs) ∧ xs.length < sizeLine ∧ Q .non (upd H l (.lst (xs ++ [y])))
theorem mt_append : MtM X "list.append" rAppend := by
  intro pins s σ H x vs v us Q I rx rv h
  obtain ⟨l, xs, y, rfl, rfl, hH, hz, q⟩ := h
  cases rx
  obtain ⟨u, rfl, ru⟩ := rv.one
  obtain ⟨z, its, n, r, hl, e⟩ := I.lstM hH
  refine call_meets F.slot_list_append ⟨_, e, rfl⟩ F.entry_list_append (F.args_list_append_2 _ _) (PySem.list_append l its.toArray n u (by rw [List.size_toArray]; omega)) ⟨e, ?_⟩
  refine ⟨.non, _, I.lset (its' := its ++ [u]) hH e (by simp) (r.append (.cons ru .nil)) ?_, rfl, q⟩
  rw [List.length_append, List.length_singleton]
  omega






/-! ### list + list, list += list, list * int -/

/-! ### del xs[i] -/
end

/-! ### xs[a:b] = ys -/
section
variable {prog : Program} {w : World} {A : Around} {E : Value → Shared → Prop} {s : Shared}
set_option maxRecDepth 100000 in
end

section
variable {X : Cx}
end
end L2

namespace L2
open PySem PySem.Spec PyProof.Rows


/-! ### the library's walks over a list of ints, kept objects alone -/
section
variable {prog : Program} {w : World} {A : Around} {E : Value → Shared → Prop} {s : Shared} {l : Addr} {its : List Value} {ns : List Int} {Q : Value → Shared → Prop}
end

/-! ### the calls, by values (CallR of 03t; MtR of 06l) -/
section
variable {X : Cx}

/-! sorted, sort (fewer than 64 items: the library's own bound) -/
end

/-! ### list.index, flat items -/
section
variable {X : Cx}
end

/-! ### type(x) of an own instance; is, is not of a module's class -/
section
variable {X : Cx}
end

/-! ### any(xs), all(xs) of a list of bools -/
section
variable {X : Cx}
end

/-! ### == and != of data at any depth: none, bools, ints, texts, lists, tuples -/
section
variable {X : Cx} {pins : List (Addr × Obj)} {σ : St} {H : Hp} {s : Shared}
end
section
variable {X : Cx}
end
end L2

namespace L2
open PySem PySem.Spec PyProof.Rows
abbrev CellAt (h : Heap) (c : Addr) (v : Option Value) : Prop := h.IsCell c v
def relS (scope sc : Scope) : Scope :=
  { scope with names := scope.names.map fun (n, k) => if (k == .free && sc.kind == .function && sc.names.lookup n == some .cell) then (n, .cell) else (n, k) }

def cloFrom (cells : List (Str × Addr)) : List (Str × NameKind) → List (Str × Addr) → List (Str × Addr)
  | [], acc => acc
  | (n, k) :: r, acc => if k == .free then cloFrom cells r ((n, (cells.lookup n).getD 0) :: acc) else cloFrom cells r acc

theorem closure_loop (env : Env) (f : Str × NameKind → List (Str × Addr) → Sem (ForInStep (List (Str × Addr))))
    (hf : ∀ n k c, f (n, k) c = if k == .free then (do let a ← cellOf env n; pure (.yield ((n, a) :: c))) else pure (.yield c)) :
    ∀ (names : List (Str × NameKind)) (acc : List (Str × Addr)), (∀ y ∈ names, y.2 = .free → ∃ c, env.cells.lookup y.1 = some c) → forIn names acc f = pure (cloFrom env.cells names acc)
  | [], acc, _ => by rw [List.forIn_nil]; rfl
  | (n, k) :: r, acc, h => by
    rw [List.forIn_cons, hf]
    have ih := fun acc => closure_loop env f hf r acc fun y hy => h y (List.mem_cons_of_mem _ hy)
    unfold cloFrom
    by_cases hk : (k == NameKind.free) = true
    · rw [if_pos hk, if_pos hk]
      obtain ⟨c, hc⟩ := h (n, k) List.mem_cons_self (by simpa using hk)
      have e : cellOf env n = pure c := by unfold cellOf; rw [hc]
      rw [e]
      have e2 : (env.cells.lookup n).getD 0 = c := by rw [hc]; rfl
      rw [e2]
      exact ih _
    · rw [if_neg hk, if_neg hk]
      exact ih _
theorem closure_ok {scope : Scope} {env : Env} (h : ∀ y ∈ scope.names, y.2 = .free → ∃ c, env.cells.lookup y.1 = some c) : closureFor scope env = pure (cloFrom env.cells scope.names []) := by
  simp only [closureFor]
  rw [closure_loop env _ (fun n k c => rfl) scope.names [] h]
  rfl

theorem mem_lookup {α : Type} : ∀ {l : List (Str × α)} {n : Str} {c : α}, (n, c) ∈ l → ∃ c', l.lookup n = some c'
  | (k, v) :: r, n, c, h => by
    rw [List.lookup_cons]
    cases hb : n == k with
    | true => exact ⟨_, rfl⟩
    | false =>
      rcases List.mem_cons.mp h with e | h
      · cases e; simp at hb
      · exact mem_lookup h

theorem cloFrom_mem {cells : List (Str × Addr)} : ∀ {names : List (Str × NameKind)} {acc : List (Str × Addr)} {n : Str} {c : Addr}, (n, c) ∈ cloFrom cells names acc → (n, c) ∈ acc ∨ ((n, .free) ∈ names ∧ c = (cells.lookup n).getD 0)
  | [], _, _, _, h => .inl h
  | (m, k) :: r, acc, n, c, h => by
    unfold cloFrom at h
    split at h
    · rename_i hk
      have hk : k = .free := by simpa using hk
      rcases cloFrom_mem h with h | ⟨h1, h2⟩
      · rcases List.mem_cons.mp h with e | h
        · cases e; exact .inr ⟨hk ▸ List.mem_cons_self, rfl⟩
        · exact .inl h
      · exact .inr ⟨List.mem_cons_of_mem _ h1, h2⟩
    · rcases cloFrom_mem h with h | ⟨h1, h2⟩
      · exact .inl h
      · exact .inr ⟨List.mem_cons_of_mem _ h1, h2⟩
theorem cloFrom_acc {cells : List (Str × Addr)} : ∀ {names : List (Str × NameKind)} {acc : List (Str × Addr)} {p : Str × Addr}, p ∈ acc → p ∈ cloFrom cells names acc
  | [], _, _, h => h
  | (m, k) :: r, acc, p, h => by
    unfold cloFrom
    split
    · exact cloFrom_acc (List.mem_cons_of_mem _ h)
    · exact cloFrom_acc h
theorem cloFrom_has {cells : List (Str × Addr)} : ∀ {names : List (Str × NameKind)} {acc : List (Str × Addr)} {n : Str}, (n, .free) ∈ names → (n, (cells.lookup n).getD 0) ∈ cloFrom cells names acc
  | (m, k) :: r, acc, n, h => by
    unfold cloFrom
    rcases List.mem_cons.mp h with e | h
    · cases e
      exact cloFrom_acc List.mem_cons_self
    · split
      · exact cloFrom_has h
      · exact cloFrom_has h

theorem cells_mem : ∀ {names : List (Str × NameKind)} {h : Heap} {acc : List (Str × Addr)} {x : Str} {c : Addr}, (x, c) ∈ cellsFrom h.objs.size names acc →
    (x, c) ∈ acc ∨ ((x, .cell) ∈ names ∧ h.objs.size ≤ c ∧ CellAt (pushCells h names) c none)
  | [], _, _, _, _, h => .inl h
  | (n, k) :: r, h, acc, x, c, hm => by
    unfold cellsFrom at hm
    unfold pushCells
    split at hm
    · rename_i hk
      rw [if_pos hk]
      have hk : k = .cell := by simpa using hk
      rw [← Heap.size_push h { cls := .type "cell", data := .cell none }] at hm
      rcases cells_mem hm with hm | ⟨h1, h2, h3⟩
      · rcases List.mem_cons.mp hm with e | hm
        · cases e
          exact .inr ⟨hk ▸ List.mem_cons_self, Nat.le_refl _, _, pushCells_keeps r _ _ _ (Heap.get?_push_size _ rfl), rfl⟩
        · exact .inl hm
      · rw [Heap.size_push] at h2
        exact .inr ⟨List.mem_cons_of_mem _ h1, Nat.le_of_succ_le h2, h3⟩
    · rename_i hk
      rw [if_neg hk]
      rcases cells_mem hm with hm | ⟨h1, h2, h3⟩
      · exact .inl hm
      · exact .inr ⟨List.mem_cons_of_mem _ h1, h2, h3⟩
theorem cells_acc : ∀ {names : List (Str × NameKind)} {n : Nat} {acc : List (Str × Addr)} {p : Str × Addr}, p ∈ acc → p ∈ cellsFrom n names acc
  | [], _, _, _, h => h
  | (m, k) :: r, n, acc, p, h => by
    unfold cellsFrom
    split
    · exact cells_acc (List.mem_cons_of_mem _ h)
    · exact cells_acc h
theorem cells_has : ∀ {names : List (Str × NameKind)} {n : Nat} {acc : List (Str × Addr)} {x : Str}, (x, .cell) ∈ names → ∃ c, (x, c) ∈ cellsFrom n names acc
  | (m, k) :: r, n, acc, x, h => by
    unfold cellsFrom
    rcases List.mem_cons.mp h with e | h
    · cases e
      exact ⟨n, cells_acc List.mem_cons_self⟩
    · split
      · exact cells_has h
      · exact cells_has h
theorem cells_inj : ∀ {names : List (Str × NameKind)} {h : Heap} {acc : List (Str × Addr)} {x y : Str} {c : Addr}, (∀ p ∈ acc, p.2 < h.objs.size) → (∀ x y c, (x, c) ∈ acc → (y, c) ∈ acc → x = y) →
    (x, c) ∈ cellsFrom h.objs.size names acc → (y, c) ∈ cellsFrom h.objs.size names acc → x = y
  | [], _, _, _, _, _, _, hi, h1, h2 => hi _ _ _ h1 h2
  | (n, k) :: r, h, acc, x, y, c, hl, hi, h1, h2 => by
    unfold cellsFrom at h1 h2
    split at h1
    · rename_i hk
      rw [if_pos hk] at h2
      rw [← Heap.size_push h { cls := .type "cell", data := .cell none }] at h1 h2
      refine cells_inj (h := h.push _) (fun p hp => ?_) (fun x y c a b => ?_) h1 h2
      · rw [Heap.size_push]
        rcases List.mem_cons.mp hp with rfl | hp
        · exact Nat.lt_succ_self _
        · exact Nat.lt_succ_of_lt (hl p hp)
      · rcases List.mem_cons.mp a with e | a <;> rcases List.mem_cons.mp b with e' | b
        · cases e; cases e'; rfl
        · cases e; exact absurd (hl _ b) (Nat.lt_irrefl _)
        · cases e'; exact absurd (hl _ a) (Nat.lt_irrefl _)
        · exact hi _ _ _ a b
    · rename_i hk
      rw [if_neg hk] at h2
      exact cells_inj hl hi h1 h2

theorem newEnv_comp {M : Model} {A : Around} {E : Value → Shared → Prop} {s : Shared} {scope : Scope} {globals : Addr} {closure : List (Str × Addr)} {qual : Str} {func : Option Addr} {code : Value} {around : Env} {builtins : Addr} {Q : Env → Shared → Prop}
    (h : Q (newEnv scope s.heap.objs.size globals (cellsFrom (s.heap.objs.size + 1) scope.names closure) qual func code (some around) builtins)
      { s with heap := pushCells (s.heap.push { cls := .type "dict", data := .dict #[] }) scope.names }) :
    wpAny M A (newFunctionEnv scope globals closure [] qual func code (some around) builtins) Q E s := by
  simp only [newFunctionEnv, Option.isSome_some, if_true]
  refine wpAny_bind (wpAny_alloc ?_)
  refine wpAny_bind (wpAny_layCells _ (fun n k c => rfl) scope.names closure _ _ ?_)
  rw [show ({ s with heap := s.heap.push { cls := .type "dict", data := .dict #[] } } : Shared).heap.objs.size = s.heap.objs.size + 1 from Heap.size_push ..]
  rw [List.forIn_nil]
  exact wpAny_bind (wpAny_pure (wpAny_pure h))

/-- every name of the written scope, in the scope that runs -/
theorem lookup_relS {sc : Scope} : ∀ {names : List (Str × NameKind)} {x : Str} {k : NameKind},
    (names.map fun (n, k) => if (k == NameKind.free && sc.kind == .function && sc.names.lookup n == some .cell) then (n, NameKind.cell) else (n, k)).lookup x = some k →
    ∃ k', names.lookup x = some k' ∧ (k = k' ∨ (k' = .free ∧ k = .cell))
  | [], _, _, h => by simp at h
  | (n, k₀) :: r, x, k, h => by
    have ih := @lookup_relS sc r x k
    have h' : List.lookup x ((if (k₀ == NameKind.free && sc.kind == .function && sc.names.lookup n == some .cell) = true then (n, NameKind.cell) else (n, k₀)) :: (r.map _)) = some k := h
    cases hx : x == n with
    | true =>
      simp only [List.lookup_cons, hx]
      by_cases hc : (k₀ == NameKind.free && sc.kind == .function && sc.names.lookup n == some .cell) = true
      · rw [if_pos hc] at h'
        simp only [List.lookup_cons, hx] at h'
        cases h'
        simp only [Bool.and_eq_true, beq_iff_eq] at hc
        exact ⟨k₀, rfl, .inr ⟨hc.1.1, rfl⟩⟩
      · rw [if_neg hc] at h'
        simp only [List.lookup_cons, hx] at h'
        cases h'
        exact ⟨_, rfl, .inl rfl⟩
    | false =>
      simp only [List.lookup_cons, hx]
      by_cases hc : (k₀ == NameKind.free && sc.kind == .function && sc.names.lookup n == some .cell) = true
      · rw [if_pos hc] at h'
        simp only [List.lookup_cons, hx] at h'
        exact ih h'
      · rw [if_neg hc] at h'
        simp only [List.lookup_cons, hx] at h'
        exact ih h'



/-- the names of a comprehension's block: its own (with their places in N), or captured -/
structure BlkOk (N : List Str) (sc scope : Scope) (own : List (Str × Nat)) : Prop where
  kind : scope.kind = .function
  uniq : ∀ y ∈ scope.names, scope.names.lookup y.1 = some y.2
  ix : ∀ p ∈ own, N[p.2]? = some p.1
  free : ∀ y ∈ scope.names, y.2 = .free → sc.names.lookup y.1 = some .cell ∨ sc.names.lookup y.1 = some .free
  own : ∀ y ∈ scope.names, y.2 = .local ∨ y.2 = .cell → y.1 ∈ own.map (·.1) ∨ y.1 ∉ N
/-- the slots of the block's own names forgotten -/
def wipe (σ : St) : List Nat → St
  | [] => σ
  | v :: vs => (wipe σ vs).set v none
theorem wipe_length (σ : St) : ∀ vs : List Nat, (wipe σ vs).length = σ.length
  | [] => rfl
  | v :: vs => by unfold wipe; rw [List.length_set, wipe_length σ vs]
theorem wipe_some {σ : St} {i : Nat} {x : V} : ∀ {vs : List Nat}, (wipe σ vs)[i]? = some (some x) → σ[i]? = some (some x) ∧ i ∉ vs
  | [], h => ⟨h, by simp⟩
  | v :: vs, h => by
    unfold wipe at h
    by_cases hi : v = i
    · subst hi
      by_cases hv : v < (wipe σ vs).length
      · rw [List.getElem?_set_self hv] at h; cases h
      · rw [List.getElem?_eq_none (by simpa using hv)] at h; cases h
    · rw [List.getElem?_set_ne hi] at h
      obtain ⟨h1, h2⟩ := wipe_some h
      exact ⟨h1, by simp only [List.mem_cons, not_or]; exact ⟨fun e => hi e.symm, h2⟩⟩

/-- the context of a block that starts at s, its iterator's objects at fp -/
abbrev Cx.blk (X : Cx) (s : Shared) (H : Hp) (scope : Scope) (cenv : Env) (fp : List Addr) : Cx := { X with s_0 := s, H_0 := H, env := cenv, outer := X.stack, ex := fp, fn := fun x => scope.names.lookup x == some .cell, pn := [], xe := fun _ _ => False }
section
variable {X : Cx} {pins : List (Addr × Obj)} {σ : St} {H : Hp} {s : Shared}
theorem block_start {scope : Scope} {own : List (Str × Nat)} {fp : List Addr} (I : Inv X pins σ H s) (ok : BlkOk X.N X.env.scope scope own) (hN : X.N.Nodup) (hfp : ∀ b ∈ fp, FpOk X pins H b ∧ b < s.heap.objs.size) :
    Inv (X.blk s H scope (compEnvC scope (cellsFrom (s.heap.objs.size + 1) scope.names (cloFrom X.env.cells scope.names [])) s.heap.objs.size X.env) fp) [] (wipe σ (own.map (·.2))) H { s with heap := pushCells (s.heap.push { cls := .type "dict", data := .dict #[] }) scope.names } := by
  have hfree : ∀ y ∈ scope.names, y.2 = .free → ∃ c, X.env.cells.lookup y.1 = some c := fun y hy e => by
    rcases ok.free y hy e with k | k
    · exact I.ok.has _ (.inl k)
    · exact I.ok.has _ (.inr k)
  generalize hcenv : compEnvC scope (cellsFrom (s.heap.objs.size + 1) scope.names (cloFrom X.env.cells scope.names [])) s.heap.objs.size X.env = cenv
  have kp : ∀ b o, s.heap.get? b = some o → (pushCells (s.heap.push { cls := .type "dict", data := .dict #[] }) scope.names).get? b = some o := fun b o e => pushCells_keeps _ _ _ _ (Heap.get?_push_of_some _ e)
  have hL : cenv.locals = s.heap.objs.size := by rw [← hcenv]; rfl
  have hcl : cenv.cells = cellsFrom (s.heap.objs.size + 1) scope.names (cloFrom X.env.cells scope.names []) := by rw [← hcenv]; rfl
  have hsc : cenv.scope = relS scope X.env.scope := by rw [← hcenv]; rfl
  rw [← Heap.size_push s.heap { cls := .type "dict", data := .dict #[] }] at hcl
  have cm : ∀ {y c}, (y, c) ∈ cloFrom X.env.cells scope.names [] → X.env.cells.lookup y = some c ∧ c < s.heap.objs.size := fun {y c} hm => by
    rcases cloFrom_mem hm with hm | ⟨h1, rfl⟩
    · cases hm
    · obtain ⟨c, hc⟩ := hfree _ h1 rfl
      rw [hc]
      obtain ⟨w, z⟩ := I.cell _ _ hc
      exact ⟨rfl, z.lt⟩
  have mem : ∀ {y c}, cenv.cells.lookup y = some c → (X.env.cells.lookup y = some c ∧ c < s.heap.objs.size) ∨ (s.heap.objs.size + 1 ≤ c ∧ CellAt (pushCells (s.heap.push { cls := .type "dict", data := .dict #[] }) scope.names) c none) := fun {y c} e => by
    rw [hcl] at e
    rcases cells_mem (PySem.mem_of_lookup e) with hm | ⟨_, h2, h3⟩
    · exact .inl (cm hm)
    · rw [Heap.size_push] at h2; exact .inr ⟨h2, h3⟩
  have look : ∀ {y}, scope.names.lookup y = some .free → ∃ c, cenv.cells.lookup y = some c ∧ X.env.cells.lookup y = some c := fun {y} hl => by
    have hy : (y, NameKind.free) ∈ scope.names := PySem.mem_of_lookup hl
    obtain ⟨c', e'⟩ := mem_lookup (cells_acc (names := scope.names) (n := (s.heap.push { cls := .type "dict", data := .dict #[] }).objs.size) (cloFrom_has (cells := X.env.cells) (acc := []) hy))
    rw [← hcl] at e'
    refine ⟨c', e', ?_⟩
    rw [hcl] at e'
    rcases cells_mem (PySem.mem_of_lookup e') with hm | ⟨h1, _, _⟩
    · exact (cm hm).1
    · have := ok.uniq _ h1
      rw [hl] at this; cases this
  have okB : (X.blk s H scope cenv fp).Ok := by
    refine ⟨I.ok.mod, by show cenv.scope.kind = _; rw [hsc]; exact ok.kind, by show cenv.globals = _; rw [← hcenv]; exact I.ok.glob, by show cenv.builtins = _; rw [← hcenv]; exact I.ok.blt, by show s.heap.objs.size ≤ cenv.locals; rw [hL]; exact Nat.le_refl _,
      fun y z c e1 e2 => ?_, fun y hy => ?_, fun y c z e => ?_, I.ok.hd, I.ok.frames, .inl rfl, fun b hb => ⟨?_, fun y c e z => ?_⟩, I.bs, Nat.le_trans I.ok.bsz I.sz, fun b o e hb => ?_, fun b hb z => ?_, I.stack, I.stkFree⟩
    · have e1 : cenv.cells.lookup y = some c := e1
      have e2 : cenv.cells.lookup z = some c := e2
      rw [hcl] at e1 e2
      refine cells_inj (fun p hp => ?_) (fun y z c a b => I.ok.inj y z c (cm a).1 (cm b).1) (PySem.mem_of_lookup e1) (PySem.mem_of_lookup e2)
      rw [Heap.size_push]
      exact Nat.lt_succ_of_lt (cm (y := p.1) (c := p.2) hp).2
    · show ∃ c, cenv.cells.lookup y = some c
      have key : ∀ k, cenv.kindOf y = some k → (k = .cell ∨ k = .free) → ∃ c, cenv.cells.lookup y = some c := fun k hk hk' => by
        unfold Env.kindOf at hk
        rw [hsc] at hk
        obtain ⟨k', e, r⟩ := lookup_relS hk
        have : k' = .cell ∨ k' = .free := by
          rcases r with rfl | ⟨rfl, _⟩
          · exact hk'
          · exact .inr rfl
        rcases this with rfl | rfl
        · obtain ⟨c, hm⟩ := cells_has (n := (s.heap.push { cls := .type "dict", data := .dict #[] }).objs.size) (acc := cloFrom X.env.cells scope.names []) (PySem.mem_of_lookup e)
          obtain ⟨c', e'⟩ := mem_lookup hm
          exact ⟨c', by rw [hcl]; exact e'⟩
        · obtain ⟨c, h1, _⟩ := look e
          exact ⟨c, h1⟩
      rcases hy with hy | hy
      · exact key _ hy (.inl rfl)
      · exact key _ hy (.inr rfl)
    · have z : (scope.names.lookup y == some NameKind.cell) = true := z
      have z : scope.names.lookup y = some .cell := by simpa using z
      have e : cenv.cells.lookup y = some c := e
      rw [hcl] at e
      rcases cells_mem (PySem.mem_of_lookup e) with hm | ⟨_, h2, _⟩
      · rcases cloFrom_mem hm with hm | ⟨h1, _⟩
        · cases hm
        · have q := ok.uniq _ h1
          rw [z] at q; cases q
      · rw [Heap.size_push] at h2
        exact Nat.le_of_succ_le h2
    · show b ≠ cenv.locals
      rw [hL]; exact Nat.ne_of_lt (hfp b hb).2
    · have e : cenv.cells.lookup y = some c := e
      rcases mem e with ⟨h1, _⟩ | ⟨h1, _⟩
      · exact (hfp b hb).1.2.2.2.2.1 y c h1 z
      · have h2 : s.heap.objs.size + 1 ≤ b := by rw [← z]; exact h1
        exact absurd (Nat.lt_of_lt_of_le (hfp b hb).2 (Nat.le_of_succ_le h2)) (Nat.lt_irrefl _)
    · rcases (hfp b hb).1.2.2.2.1 with z | z
      · exact I.ok.noex b o e z
      · exact absurd (Nat.lt_of_lt_of_le (Heap.lt_size e) (Nat.le_trans I.ok.bsz z)) (Nat.lt_irrefl _)
    · rcases List.mem_cons.mp (I.stkSub b z) with z | z
      · exact (hfp b hb).1.2.1 z
      · exact (hfp b hb).1.2.2.1 z
  refine ⟨okB, rfl, I.bare, Un.kept kp, ⟨fun _ => none, ?_, fun i y av e1 e2 e3 => ?_⟩, fun y c e => ?_, ?_, fun y c e => ?_, fun p hp => ?_, I.hok.kept kp, by rw [wipe_length]; exact I.len⟩
  · show Heap.Ns _ cenv.locals _
    rw [hL]
    exact Heap.Ns.keeps (Heap.Ns.new ..) fun b o e => pushCells_keeps _ _ _ _ e
  · obtain ⟨e2, hne⟩ := wipe_some e2
    have hfr : scope.names.lookup y = some .free ∧ (cenv.kindOf y = some .cell ∨ cenv.kindOf y = some .free) := by
      have key : ∀ k, cenv.scope.names.lookup y = some k → k = .local ∨ k = .cell ∨ k = .free → scope.names.lookup y = some .free ∧ (cenv.kindOf y = some .cell ∨ cenv.kindOf y = some .free) := fun k hk hk' => by
        have hk0 := hk
        rw [hsc] at hk
        obtain ⟨k', e, r⟩ := lookup_relS hk
        have no : ¬ (k' = .local ∨ k' = .cell) := fun hh => by
          rcases ok.own _ (PySem.mem_of_lookup e) hh with e' | e'
          · obtain ⟨p, hp, hpy⟩ := List.mem_map.mp e'
            have e3 := ok.ix p hp
            have : p.1 = y := hpy
            rw [this] at e3
            exact hne (List.mem_map.mpr ⟨p, hp, nodup_ix hN e3 e1⟩)
          · exact e' (List.mem_of_getElem? e1)
        rcases r with rfl | ⟨rfl, rfl⟩
        · rcases hk' with rfl | rfl | rfl
          · exact absurd (.inl rfl) no
          · exact absurd (.inr rfl) no
          · exact ⟨e, .inr hk0⟩
        · exact ⟨e, .inl hk0⟩
      have e3 : Vis cenv.scope y := e3
      rcases e3 with e3 | e3 | e3
      · exact key _ e3 (.inl rfl)
      · exact key _ e3 (.inr (.inl rfl))
      · exact key _ e3 (.inr (.inr rfl))
    obtain ⟨m, hn, hl⟩ := I.loc
    have hvis : Vis X.env.scope y := (ok.free _ (PySem.mem_of_lookup hfr.1) rfl).elim (fun k => .inr (.inl k)) (fun k => .inr (.inr k))
    obtain ⟨w, r, q⟩ := hl i y av e1 e2 hvis
    refine ⟨w, r, .inr ⟨hfr.2, ?_⟩⟩
    obtain ⟨c, h1, h2⟩ := look hfr.1
    rcases q with ⟨k, _⟩ | ⟨_, c', e', z⟩
    · have k : X.env.scope.names.lookup y = some .local := k
      rcases ok.free _ (PySem.mem_of_lookup hfr.1) rfl with k' | k' <;> rw [show X.env.scope.names.lookup y = _ from k'] at k <;> cases k
    · rw [h2] at e'; cases e'
      exact ⟨c, h1, z.keeps kp⟩
  · have e : cenv.cells.lookup y = some c := e
    rcases mem e with ⟨h1, _⟩ | ⟨_, z⟩
    · obtain ⟨w, z⟩ := I.cell y c h1
      exact ⟨w, z.keeps kp⟩
    · exact ⟨_, z⟩
  · show H cenv.locals = none
    rw [hL]; exact I.hok.fresh (Nat.le_refl _)
  · have e : cenv.cells.lookup y = some c := e
    rcases mem e with ⟨h1, _⟩ | ⟨h1, _⟩
    · exact I.freeC y c h1
    · exact I.hok.fresh (Nat.le_of_succ_le h1)
  · exact absurd (show p ∈ ([] : List (Addr × Obj)) ++ [] from hp) (by simp)

/-- an item appended to a tracked list -/
theorem app_ok {E : Value → Shared → Prop} {D : Addr} {xs : List V} {y : V} {v : Value} {Q : Value → Shared → Prop} (I : Inv X pins σ H s) (hD : H D = some (.lst xs)) (hz : xs.length < sizeLine) (r : RelV y v)
    (h : ∀ s', Inv X pins σ (upd H D (.lst (xs ++ [y]))) s' → Q .none s') : wpAny (model X.prog X.w) X.A (call (.builtin "list.append") [.ref D, v]) Q E s := by
  obtain ⟨hz', its, n, ri, e⟩ := I.hok D _ hD
  have hl := ri.length
  refine append_at (hsz := by rw [List.size_toArray]; omega) e fun h' sb ho' => ?_
  refine h { s with heap := h' } (I.write (t' := s.toks) (by rw [hD]; trivial) (.inl rfl) (fun b u hb q => (sb.2 b hb).trans q) ⟨_, ho'⟩ ⟨by rw [List.length_append]; exact hz, its ++ [v], n + 1, ri.append (.cons r .nil), ?_⟩)
  rw [ho']
  simp

/-- a clause's tests -/
def PTs (X : Cx) (ifs : List Expr) (t : TT) : Prop :=
  ∀ (pins : List (Addr × Obj)) (s : Shared) (σ : St) (H : Hp) (Q : Bool → Hp → Prop), Inv X pins σ H s → t σ H Q →
    wpAny (model X.prog X.w) X.A (forIn ifs true fun c r => if r = true then do let ok ← isTrue c X.env (eval c X.env); pure (ForInStep.yield ok) else pure (ForInStep.yield r)) (TP X pins σ Q) X.xe s
def tYes : TT := fun _ H Q => Q true H
theorem pts_nil : PTs X [] tYes := fun _ _ _ H _ I h => wpAny_tests_nil ⟨H, I, h⟩
end

theorem thnF {α : Type} {t : Sem α} {Q Q' : α → Shared → Prop} {M : Model} {A : Around} {E : Value → Shared → Prop} {s : Shared} (h : wpAny M A t Q (fun _ _ => False) s) (hQ : ∀ a s, Q a s → Q' a s) : wpAny M A t Q' E s := wpAny_mono h hQ fun _ _ z => False.elim z

/-- the loop of a list comprehension's block, the target of any form (codeAny_compLoop_tests asks a target that no tuple goes to; statement and proof follow it, PyProof/CompMap.lean:41-61, with the step letOwnedTupleGo kept) -/
theorem compLoop_any {prog : Program} {w : World} {A : Around} {R : Result → Shared → Prop} {s : Shared} {elt target iter : Expr} {ifs : List Expr} {scope : Scope} {pos : Pos} {it acc : Value} {env : Env} (I : Nat → Shared → Prop)
    (turn : ∀ n s, I n s → wpAny (model prog w) A (pyNext it) (fun r s₁ => match r with
      | none => R (.ok .next) s₁
      | some v => wpAny (model prog w) A (letOwnedTupleGo target it v) (fun _ s₁' => wpAny (model prog w) A (assign target env v) (fun _ s₂ =>
          wpAny (model prog w) A (forIn ifs true fun c r => if r = true then do let ok ← isTrue c env (eval c env); pure (ForInStep.yield ok) else pure (ForInStep.yield r)) (fun ok s₃ =>
            if ok = true then wpAny (model prog w) A (eval elt env) (fun x s₄ =>
              wpAny (model prog w) A (call (.builtin "list.append") [acc, x]) (fun _ s₅ => ∃ m, m < n ∧ I m s₅) (notedBy (model prog w) A env fun e s' => R (.error e) s') s₄) (notedBy (model prog w) A env fun e s' => R (.error e) s') s₃
            else ∃ m, m < n ∧ I m s₃) (notedBy (model prog w) A env fun e s' => R (.error e) s') s₂) (notedBy (model prog w) A env fun e s' => R (.error e) s') s₁') (notedBy (model prog w) A env fun e s' => R (.error e) s') s₁) (notedBy (model prog w) A env fun e s' => R (.error e) s') s)
    (n : Nat) (h : I n s) :
    codeAny (model prog w) A (.compLoop (.ListComp elt [⟨target, iter, ifs, 0⟩] scope pos) 0 it acc env) R s := by
  refine codeAny_loop rfl I (fun n s hI => ?_) n h
  show wpAny _ A ((compTurn (.ListComp elt [⟨target, iter, ifs, 0⟩] scope pos) 0 it acc env).onRaise (fun x => do noteFrame x env; theTreesLotGoes x)) _ _ s
  refine wpAny_noted ?_
  rw [compTurn_list]
  refine wpAny_bind (wpAny_standAt (wpAny_bind (wpAny_mono (turn n s hI) (fun r s₁ h₁ => ?_) fun _ _ h' => h')))
  cases r with
  | none => exact wpAny_pure h₁
  | some v =>
    refine wpAny_bind (wpAny_mono h₁ (fun _ s₁' h₁' => ?_) fun _ _ h' => h')
    refine wpAny_bind (wpAny_mono h₁' (fun _ s₂ h₂ => wpAny_bind (wpAny_mono h₂ (fun ok s₃ h₃ => ?_) fun _ _ h' => h')) fun _ _ h' => h')
    cases ok with
    | false => exact wpAny_pure ⟨rfl, h₃⟩
    | true =>
      exact wpAny_bind (wpAny_bind (wpAny_mono h₃ (fun x s₄ h₄ => wpAny_bind (wpAny_mono h₄ (fun _ s₅ h₅ => wpAny_pure (wpAny_pure ⟨rfl, h₅⟩)) fun _ _ h' => h')) fun _ _ h' => h'))

section
variable {X : Cx}
/-- [elt for target in iter if ..]: D the new list; W by the turn and a measure, Nx what a turn is to reach -/
def tLc (wi : TI) (g : TG) (tt : TT) (te : TE) (vs : List Nat) : TE := fun σ H Q => wi σ H fun J H1 => ∀ D, H1 D = none → ∃ W : Nat → Nat → Hp → Prop, (∃ m, W 0 m (upd H1 D (.lst []))) ∧ ∀ i m H, W i m H →
  (J.stop i H ∧ Q (.ref D) H) ∨ (J.go i H ∧ ∃ Nx : Hp → Prop, (∀ H', Nx H' → ∃ m', m' < m ∧ W (i + 1) m' H') ∧ ∀ x H', J.yld i H x H' → g x (wipe σ vs) H' fun σ2 H2 => wipe σ2 vs = wipe σ vs ∧ tt σ2 H2 fun b H3 =>
    if b = true then te σ2 H3 fun y H4 => ∃ acc, H4 D = some (.lst acc) ∧ acc.length < sizeLine ∧ Nx (upd H4 D (.lst (acc ++ [y]))) else Nx H3)
theorem lc_core {pins : List (Addr × Obj)} {s : Shared} {σ : St} {H : Hp} {Q : VK} {elt tg iter : Expr} {ifs : List Expr} {scope : Scope} {own : List (Str × Nat)} {pos pos' : Pos} {wi : TI} {g : TG} {tt : TT} {te : TE} {use : Option (Value → Sem Unit)} {Qf : Value → Shared → Prop}
    (hc : X.calm = true) (hN : X.N.Nodup) (I : Inv X pins σ H s) (hi : PI X tg iter wi) (ok : BlkOk X.N X.env.scope scope own)
    (hg : ∀ (s : Shared) (H : Hp) (C : Addr) (cl : List (Str × Addr)) (fp : List Addr), PG (X.blk s H scope (compEnvC scope cl C X.env) fp) tg g) (ht : ∀ (s : Shared) (H : Hp) (C : Addr) (cl : List (Str × Addr)) (fp : List Addr), PTs (X.blk s H scope (compEnvC scope cl C X.env) fp) ifs tt)
    (he : ∀ (s : Shared) (H : Hp) (C : Addr) (cl : List (Str × Addr)) (fp : List Addr), PE (X.blk s H scope (compEnvC scope cl C X.env) fp) elt te) (hs : ∀ x, foldedSetIterable iter X.env x = pure x)
    (h : tLc wi g tt te (own.map (·.2)) σ H Q)
    (hRR : ∀ D C s' m H', Inv X pins σ H' s' → Q (.ref D) H' → s'.heap.Ns C m → FpOk X pins H' C → compPost (model X.prog X.w) X.A X.xe use Qf (.ref D) C (.ok .next) s') :
    wpAny (model X.prog X.w) X.A (comprehension (.ListComp elt [⟨tg, iter, ifs, 0⟩] scope pos) scope X.env pos' (newList []) false (eval iter X.env) use) Qf X.xe s := by
  have hfree : ∀ y ∈ scope.names, y.2 = .free → ∃ c, X.env.cells.lookup y.1 = some c := fun y hy e => by
    rcases ok.free y hy e with k | k
    · exact I.ok.has _ (.inl k)
    · exact I.ok.has _ (.inr k)
  refine wpAny_comprehension_free (use := use) rfl hs (closure_ok hfree) ok.kind (fun y hy e => by rw [ok.uniq y hy, e])
    (thn (hi pins s σ H _ I h) fun xv s1 hx => thn hx fun itv s2 h2 => ?_)
  obtain ⟨it, fp, tn, J, H2, e, I2, T, st2, f2, q⟩ := h2
  subst e
  refine wpAny_newObj_type (newEnv_comp ?_) (by show 0 ≤ sizeLine; decide)
  generalize hD : s2.heap.objs.size = D
  have hDn : H2 D = none := I2.hok.fresh (Nat.le_of_eq hD)
  obtain ⟨W, ⟨m0, w0⟩, turn⟩ := q D hDn
  -- the new list
  generalize hs3 : ({ s2 with heap := s2.heap.push { cls := .type "list", data := .seq ([] : List Value).toArray } } : Shared) = s3
  have I3 : Inv X pins σ (upd H2 D (.lst [])) s3 := by
    rw [← hs3]
    refine I2.laid (t' := s2.toks) (fun b o e => Heap.get?_push_of_some _ e) (Nat.le_of_eq hD) ⟨Nat.zero_le _, [], 0, .nil, ?_⟩
    rw [← hD]
    exact Heap.get?_push_size _ rfl
  have h3 : s3.heap = s2.heap.push { cls := .type "list", data := .seq ([] : List Value).toArray } := by rw [← hs3]
  have sz : ∀ b ∈ fp, b < s2.heap.objs.size := fun b hb => by
    obtain ⟨o, e, _⟩ := T.obj _ _ st2 b hb
    exact Heap.lt_size e
  have f3 : ∀ b ∈ fp, FpOk X pins (upd H2 D (.lst [])) b ∧ b < s3.heap.objs.size := fun b hb => by
    have hlt := sz b hb
    refine ⟨⟨?_, (f2 b hb).2⟩, by rw [h3, Heap.size_push]; exact Nat.lt_succ_of_lt hlt⟩
    rw [upd_ne (by rw [← hD]; exact Nat.ne_of_lt hlt)]
    exact (f2 b hb).1
  have st3 : tn 0 s3.heap := T.keep _ _ _ st2 fun b _ o e => by rw [h3]; exact Heap.get?_push_of_some _ e
  have I4 := block_start I3 ok hN f3
  have pg := hg s3 (upd H2 D (.lst [])) s3.heap.objs.size (cellsFrom (s3.heap.objs.size + 1) scope.names (cloFrom X.env.cells scope.names [])) fp
  have pt := ht s3 (upd H2 D (.lst [])) s3.heap.objs.size (cellsFrom (s3.heap.objs.size + 1) scope.names (cloFrom X.env.cells scope.names [])) fp
  have pe := he s3 (upd H2 D (.lst [])) s3.heap.objs.size (cellsFrom (s3.heap.objs.size + 1) scope.names (cloFrom X.env.cells scope.names [])) fp
  show codeAny _ _ (.compStart (.ListComp elt [⟨tg, iter, ifs, 0⟩] scope pos) 0 (.ref it) (.ref D) (compEnvC scope (cellsFrom (s3.heap.objs.size + 1) scope.names (cloFrom X.env.cells scope.names [])) s3.heap.objs.size X.env)) (compPost (model X.prog X.w) X.A X.xe use Qf (.ref D) s3.heap.objs.size) { s3 with heap := pushCells (s3.heap.push { cls := .type "dict", data := .dict #[] }) scope.names }
  have nfp : ∀ b ∈ fp, (upd H2 D (.lst [])) b = none := fun b hb => (f3 b hb).1.1
  generalize hce : compEnvC scope (cellsFrom (s3.heap.objs.size + 1) scope.names (cloFrom X.env.cells scope.names [])) s3.heap.objs.size X.env = ce at I4 pg pt pe ⊢
  have cL : ce.locals = s3.heap.objs.size := by subst hce; rfl
  generalize hH3 : upd H2 D (.lst []) = H3 at I3 I4 pg pt pe w0 nfp f3
  generalize hs4 : ({ s3 with heap := pushCells (s3.heap.push { cls := .type "dict", data := .dict #[] }) scope.names } : Shared) = s4 at I4 ⊢
  have st4 : tn 0 s4.heap := T.keep _ _ _ st3 fun b _ o e => by rw [← hs4]; exact pushCells_keeps _ _ _ _ (Heap.get?_push_of_some _ e)
  have stat : ∀ {σ' : St} {H' : Hp} {s' : Shared}, Inv (X.blk s3 H3 scope ce fp) [] σ' H' s' → (∀ b ∈ fp, H' b = none) → ∀ b ∈ fp, FpOk (X.blk s3 H3 scope ce fp) [] H' b := fun {σ' H' s'} I' hn b hb =>
    ⟨hn b hb, (I'.ok.exf b hb).1, I'.ok.exfs b hb, .inl hb, fun x c e => (I'.ok.exf b hb).2 x c e, fun p hp => absurd (show p ∈ ([] : List (Addr × Obj)) ++ [] from hp) (by simp)⟩
  have loop : codeAny (model X.prog X.w) X.A (.compLoop (.ListComp elt [⟨tg, iter, ifs, 0⟩] scope pos) 0 (.ref it) (.ref D) ce) (compPost (model X.prog X.w) X.A X.xe use Qf (.ref D) s3.heap.objs.size) s4 := by
    refine compLoop_any (fun n s' => ∃ i H', Inv (X.blk s3 H3 scope ce fp) [] (wipe σ (own.map (·.2))) H' s' ∧ tn i s'.heap ∧ (∀ b ∈ fp, H' b = none) ∧ W i n H') ?_ m0 ⟨0, H3, I4, st4, nfp, w0⟩
    rintro n s5 ⟨i, H5, I5, st5, n5, w5⟩
    rcases turn i n H5 w5 with ⟨stop, qq⟩ | ⟨go, Nx, hNx, step⟩
    · have td := T.done (X.blk s3 H3 scope ce fp) rfl rfl rfl hc i [] s5 _ H5 (fun _ _ => False) I5 (stat I5 n5) st5 stop
      refine thnF td fun r s6 ⟨hr, I6⟩ => ?_
      subst hr
      -- back in the def's context
      have I7 : Inv X pins σ H5 s6 := I3.call' (ch := fp) I6.os I6.base I6.hok I6.bare fun b hb => ⟨(f3 b hb).1.2.2.2.1, (f3 b hb).1.2.1, (f3 b hb).1.2.2.2.2.1, (f3 b hb).1.2.2.2.2.2⟩
      have nC : H5 s3.heap.objs.size = none := by
        have z : H5 ce.locals = none := I6.free
        rw [cL] at z
        exact z
      obtain ⟨m, hn, _⟩ := I6.loc
      have hn : s6.heap.Ns ce.locals m := hn
      rw [cL] at hn
      exact hRR D s3.heap.objs.size s6 m H5 I7 qq hn (I3.fpOk (Nat.le_refl _) nC)
    · have ti := T.item (X.blk s3 H3 scope ce fp) rfl rfl rfl hc i [] s5 _ H5 (fun _ _ => False) I5 (stat I5 n5) st5 go
      refine thnF ti fun r s6 ⟨u, hr, h6⟩ => ?_
      subst hr
      refine thnF h6 fun _ s7 ⟨x, H7, I7, r7, y7, st7, n7⟩ => ?_
      have I7' := I7.pinned (stat I7 n7) (T.obj _ _ st7)
      refine thnF (pg _ s7 _ H7 x u _ I7' r7 (step x H7 y7)) fun _ s8 ⟨σ8, H8, I8, hw8, q8⟩ => ?_
      refine thnF (pt _ s8 σ8 H8 _ I8 q8) fun b s9 ⟨H9, I9, q9⟩ => ?_
      -- the turn's end
      have fin : ∀ {s' : Shared} {H' : Hp}, Inv (X.blk s3 H3 scope ce fp) ([] ++ pinsAt fp s7.heap) σ8 H' s' → Nx H' → ∃ m, m < n ∧ ∃ i H', Inv (X.blk s3 H3 scope ce fp) [] (wipe σ (own.map (·.2))) H' s' ∧ tn i s'.heap ∧ (∀ b ∈ fp, H' b = none) ∧ W i m H' := fun {s' H'} I' nx => by
        obtain ⟨m', hm, w'⟩ := hNx H' nx
        have pin' : ∀ b ∈ fp, ∀ o, s7.heap.get? b = some o → s'.heap.get? b = some o ∧ H' b = none := fun b hb o e =>
          let z := I'.pin (b, o) (List.mem_append_right _ (List.mem_append_right _ (mem_pinsAt hb e)))
          ⟨z.1, z.2.1⟩
        have hl : (wipe σ (own.map (·.2))).length = σ8.length := by rw [← hw8, wipe_length]
        refine ⟨m', hm, i + 1, H', (I'.unpinned (pins := [])).weak hl (fun j v e => ?_), T.keep _ _ _ st7 fun b hb o e => (pin' b hb o e).1, fun b hb => ?_, w'⟩
        · rw [← hw8] at e
          exact (wipe_some e).1
        · obtain ⟨o, e, _⟩ := T.obj _ _ st7 b hb
          exact (pin' b hb o e).2
      cases b with
      | false =>
        simp only [Bool.false_eq_true, if_false] at q9 ⊢
        exact fin I9 q9
      | true =>
        simp only [if_true] at q9 ⊢
        refine thnF (pe _ s9 σ8 H9 _ I9 q9) fun z s10 ⟨yv, H10, I10, r10, acc, hD10, hz10, nx⟩ => ?_
        exact app_ok (X := X.blk s3 H3 scope ce fp) I10 hD10 hz10 r10 fun s11 I11 => fin I11 nx
  exact codeAny_compStart_list loop (T.self X.A 0 _ _ _ st4 loop)
/-- as a value -/
theorem pe_lc {elt tg iter : Expr} {ifs : List Expr} {scope : Scope} {own : List (Str × Nat)} {pos : Pos} {wi : TI} {g : TG} {tt : TT} {te : TE} (hc : X.calm = true) (hN : X.N.Nodup) (hi : PI X tg iter wi) (ok : BlkOk X.N X.env.scope scope own)
    (hg : ∀ (s : Shared) (H : Hp) (C : Addr) (cl : List (Str × Addr)) (fp : List Addr), PG (X.blk s H scope (compEnvC scope cl C X.env) fp) tg g) (ht : ∀ (s : Shared) (H : Hp) (C : Addr) (cl : List (Str × Addr)) (fp : List Addr), PTs (X.blk s H scope (compEnvC scope cl C X.env) fp) ifs tt)
    (he : ∀ (s : Shared) (H : Hp) (C : Addr) (cl : List (Str × Addr)) (fp : List Addr), PE (X.blk s H scope (compEnvC scope cl C X.env) fp) elt te) (hs : ∀ x, foldedSetIterable iter X.env x = pure x := by intro _; rfl) :
    PE X (.ListComp elt [⟨tg, iter, ifs, 0⟩] scope pos) (tLc wi g tt te (own.map (·.2))) := by
  intro pins s σ H Q I h
  rw [eval_ListComp]
  refine lc_core hc hN I hi ok hg ht he hs h fun D C s' m H' I' q hn f => ⟨m, hn, fun h'' sb => ?_⟩
  obtain ⟨f0, f1, f2, f3, f4, f5⟩ := f
  exact ⟨.ref D, H', I'.turned (t' := s'.toks) (fun b o hb e => (sb.2 b hb).trans e) f0 f1 f3 f4 f5, rfl, q⟩
/-- name = [..] on one line, the name a local -/
theorem ps_setLc {i : Nat} {y : Str} {py : Pos} {elt tg iter : Expr} {ifs : List Expr} {scope : Scope} {own : List (Str × Nat)} {pos spos : Pos} {wi : TI} {g : TG} {tt : TT} {te : TE} (hc : X.calm = true) (hN : X.N.Nodup) (hy : X.N[i]? = some y) (hyl : X.env.scope.names.lookup y = some .local)
    (hsw : swapsWith (.ListComp elt [⟨tg, iter, ifs, 0⟩] scope pos) (some (.Name y py)) spos.line X.env = pure true) (hi : PI X tg iter wi) (ok : BlkOk X.N X.env.scope scope own)
    (hg : ∀ (s : Shared) (H : Hp) (C : Addr) (cl : List (Str × Addr)) (fp : List Addr), PG (X.blk s H scope (compEnvC scope cl C X.env) fp) tg g) (ht : ∀ (s : Shared) (H : Hp) (C : Addr) (cl : List (Str × Addr)) (fp : List Addr), PTs (X.blk s H scope (compEnvC scope cl C X.env) fp) ifs tt)
    (he : ∀ (s : Shared) (H : Hp) (C : Addr) (cl : List (Str × Addr)) (fp : List Addr), PE (X.blk s H scope (compEnvC scope cl C X.env) fp) elt te) (hs : ∀ x, foldedSetIterable iter X.env x = pure x := by intro _; rfl) :
    PS X (.Assign [.Name y py] (.ListComp elt [⟨tg, iter, ifs, 0⟩] scope pos) spos) (tAsg (tLc wi g tt te (own.map (·.2))) (gName i)) := by
  intro pins s σ H D I h
  rw [exec_Assign_Name_used _ _ _ _ hsw]
  refine wpAny_bind (wpAny_standAt (wpAny_bind ?_))
  show wpAny _ X.A (do let _ ← comprehension (.ListComp elt [⟨tg, iter, ifs, 0⟩] scope pos) scope X.env (firstIterPos [⟨tg, iter, ifs, 0⟩] pos) (newList []) false (eval iter X.env) (some (assign (.Name y py) X.env))) _ _ s
  have h : tLc wi g tt te (own.map (·.2)) σ H (fun x H1 => gName i x σ H1 D.nx) := h
  refine wpAny_bind (thn (lc_core (Qf := fun _ s' => SP X pins D .next s') hc hN I hi ok hg ht he hs h fun L C s' m H' I' q hn f => ?_) fun _ s' hq => wpAny_pure (wpAny_pure hq))
  show wpAny _ _ (assign (.Name y py) X.env (.ref L)) _ _ _
  refine wpAny_assign_Name (store_ok2 (v := V.ref L) I' hN hy (.inl hyl) rfl (fun s2 I2 ⟨a, sb, ha⟩ => ?_) (.inr hyl))
  obtain ⟨f0, f1, f2, f3, f4, f5⟩ := f
  have haC : C ≠ a := by
    rcases ha with z | z
    · rw [z]; exact f1
    · exact fun e => f4 y a z e.symm
  refine ⟨m, hn.sameBut sb haC, fun h3 sb3 => ?_⟩
  exact ⟨_, H', I2.turned (t' := s2.toks) (fun b o hb e => (sb3.2 b hb).trans e) f0 f1 f3 f4 f5, q⟩
theorem sw_true {elt : Expr} {gs : List Comprehension} {scope : Scope} {pos py : Pos} {y : Str} {l : Nat} {env : Env} (hk : env.scope.kind = .function) (hy : env.scope.names.lookup y = some .local) (hl : (py.line == pos.line) = true)
    (ha : (scope.names.any fun (n, k) => n == y && (k == .local || k == .cell)) = false) : swapsWith (.ListComp elt gs scope pos) (some (.Name y py)) l env = pure true := by
  have ky : env.kindOf y = some .local := hy
  have hb : env.blockKind = .function := by unfold Env.blockKind; rw [hk]; rfl
  unfold swapsWith
  simp only [hb, ky, ha, Expr.pos, hl]
  rfl
end

/-! ### the forms one uses -/
/-- over a range: Pv by the turn and the heap (the new list at D within) -/
theorem lc_range {lo : Int} {n : Nat} {g : TG} {tt : TT} {te : TE} {vs : List Nat} {σ : St} {H1 : Hp} {D : Addr} {Qd : Hp → Prop} (Pv : Nat → Hp → Prop) (h0 : Pv 0 (upd H1 D (.lst [])))
    (hs : ∀ i H, i < n → Pv i H → g (.int (lo + i)) (wipe σ vs) H fun σ2 H2 => wipe σ2 vs = wipe σ vs ∧ tt σ2 H2 fun b H3 =>
      if b = true then te σ2 H3 fun y H4 => ∃ acc, H4 D = some (.lst acc) ∧ acc.length < sizeLine ∧ Pv (i + 1) (upd H4 D (.lst (acc ++ [y]))) else Pv (i + 1) H3) (hd : ∀ H, Pv n H → Qd H) :
    ∃ W : Nat → Nat → Hp → Prop, (∃ m, W 0 m (upd H1 D (.lst []))) ∧ ∀ i m H, W i m H →
      ((Itr lo n).stop i H ∧ Qd H) ∨ ((Itr lo n).go i H ∧ ∃ Nx : Hp → Prop, (∀ H', Nx H' → ∃ m', m' < m ∧ W (i + 1) m' H') ∧ ∀ x H', (Itr lo n).yld i H x H' → g x (wipe σ vs) H' fun σ2 H2 => wipe σ2 vs = wipe σ vs ∧ tt σ2 H2 fun b H3 =>
        if b = true then te σ2 H3 fun y H4 => ∃ acc, H4 D = some (.lst acc) ∧ acc.length < sizeLine ∧ Nx (upd H4 D (.lst (acc ++ [y]))) else Nx H3) := by
  refine ⟨fun i m H => m = n - i ∧ i ≤ n ∧ Pv i H, ⟨n, by simp, Nat.zero_le _, h0⟩, ?_⟩
  rintro i m H ⟨rfl, hi, p⟩
  by_cases hlt : i < n
  · refine .inr ⟨hlt, Pv (i + 1), fun H' p' => ⟨n - (i + 1), by omega, rfl, hlt, p'⟩, fun x H' y => ?_⟩
    obtain ⟨e, y⟩ := y
    subst e y
    exact hs i _ hlt p
  · have e : i = n := by omega
    subst e
    exact .inl ⟨Nat.le_refl _, hd H p⟩
/-- over a list that the block leaves as it is -/
theorem lc_list {K : PySem.W.Frag} {a : Addr} {xs : List V} {g : TG} {tt : TT} {te : TE} {vs : List Nat} {σ : St} {H1 : Hp} {D : Addr} {Qd : Hp → Prop} (Pv : Nat → Hp → Prop) (h0 : Pv 0 (upd H1 D (.lst []))) (hl : ∀ i H, i ≤ xs.length → Pv i H → SqL K H a xs)
    (hs : ∀ i x H, xs[i]? = some x → Pv i H → g x (wipe σ vs) H fun σ2 H2 => wipe σ2 vs = wipe σ vs ∧ tt σ2 H2 fun b H3 =>
      if b = true then te σ2 H3 fun y H4 => ∃ acc, H4 D = some (.lst acc) ∧ acc.length < sizeLine ∧ Pv (i + 1) (upd H4 D (.lst (acc ++ [y]))) else Pv (i + 1) H3) (hd : ∀ H, Pv xs.length H → Qd H) :
    ∃ W : Nat → Nat → Hp → Prop, (∃ m, W 0 m (upd H1 D (.lst []))) ∧ ∀ i m H, W i m H →
      ((Itl K a).stop i H ∧ Qd H) ∨ ((Itl K a).go i H ∧ ∃ Nx : Hp → Prop, (∀ H', Nx H' → ∃ m', m' < m ∧ W (i + 1) m' H') ∧ ∀ x H', (Itl K a).yld i H x H' → g x (wipe σ vs) H' fun σ2 H2 => wipe σ2 vs = wipe σ vs ∧ tt σ2 H2 fun b H3 =>
        if b = true then te σ2 H3 fun y H4 => ∃ acc, H4 D = some (.lst acc) ∧ acc.length < sizeLine ∧ Nx (upd H4 D (.lst (acc ++ [y]))) else Nx H3) := by
  refine ⟨fun i m H => m = xs.length - i ∧ i ≤ xs.length ∧ Pv i H, ⟨xs.length, by simp, Nat.zero_le _, h0⟩, ?_⟩
  rintro i m H ⟨rfl, hi, p⟩
  have q := hl i H hi p
  by_cases hlt : i < xs.length
  · refine .inr ⟨⟨xs, xs[i], q, by simp [hlt]⟩, Pv (i + 1), fun H' p' => ⟨xs.length - (i + 1), by omega, rfl, hlt, p'⟩, fun x H' y => ?_⟩
    obtain ⟨e, y⟩ := y
    subst e
    exact hs i x _ (y xs q) p
  · have e : i = xs.length := by omega
    subst e
    exact .inl ⟨⟨xs, q, Nat.le_refl _⟩, hd H p⟩
def blkC (N : List Str) (sc scope : Scope) (own : List (Str × Nat)) : Bool :=
  (match scope.kind with | .function => true | _ => false) && (scope.names.all fun y => decide (scope.names.lookup y.1 = some y.2)) && (own.all fun p => decide (N[p.2]? = some p.1)) &&
    (scope.names.all fun y => match y.2 with
      | .free => (match sc.names.lookup y.1 with | some .cell => true | some .free => true | _ => false)
      | .local => decide (y.1 ∈ own.map (·.1)) || decide (y.1 ∉ N)
      | .cell => decide (y.1 ∈ own.map (·.1)) || decide (y.1 ∉ N)
      | _ => true)
theorem blkOk_by {N : List Str} {sc scope : Scope} {own : List (Str × Nat)} (h : blkC N sc scope own = true) : BlkOk N sc scope own := by
  unfold blkC at h
  simp only [Bool.and_eq_true, List.all_eq_true, decide_eq_true_eq] at h
  obtain ⟨⟨⟨h1, h2⟩, h3⟩, h4⟩ := h
  refine ⟨?_, h2, h3, fun y hy e => ?_, fun y hy e => ?_⟩
  · split at h1
    · assumption
    · cases h1
  · have q := h4 y hy
    simp only [e] at q
    split at q <;> first | exact .inl (by assumption) | exact .inr (by assumption) | cases q
  · have q := h4 y hy
    rcases e with e | e <;> (simp only [e, Bool.or_eq_true, decide_eq_true_eq] at q; exact q)
end L2

namespace L2
open PySem PySem.Spec PyProof.Rows


section
variable {prog : Program} {w : World} {A : Around} {R : Result → Shared → Prop} {s : Shared} {elt t0 i0 t1 i1 : Expr} {ifs0 ifs1 : List Expr} {scope : Scope} {pos : Pos} {it acc : Value} {env : Env}
end

section
variable {X : Cx}
end
end L2

namespace L2
open PySem PySem.Spec PyProof.Rows

/-! ### lists of pairs as tables -/
section
variable {κ : Type} [DecidableEq κ]



end


/-! ### a tracked dict, its keys ints and texts or tuples of these -/


section
variable {P : Program} {w : World} {H : Hp} {h : Heap} {a : Addr}
end



section
variable {X : Cx} {pins : List (Addr × Obj)} {σ : St} {H : Hp} {s : Shared} {a : Addr} {y v : V} {u r : Value} {o : Option V} {A : Around} {E : Value → Shared → Prop}


end

section
variable {X : Cx} {pins : List (Addr × Obj)} {σ : St} {H : Hp} {s : Shared} {a : Addr} {kvs : List (Key × V)} {k : Key} {u : Value} {A : Around} {E : Value → Shared → Prop}
end


/-! ### readings and rules -/



section
variable {X : Cx} {o i e value : Expr} {pos pos' tpos : Pos} {td ty tv : TE}
end


/-! ### displays -/
section
variable {X : Cx} {pos : Pos}
end




/-! ### methods -/


section
variable {X : Cx} {pins : List (Addr × Obj)} {σ : St} {H : Hp} {s : Shared} {a : Addr} {y d : V} {u r : Value} {o : Option V} {A : Around} {E : Value → Shared → Prop}
end

section
variable {X : Cx} {o e f : Expr} {apos cpos : Pos} {td ty tx : TE}
end

/-! ### dict(d): a copy -/
section
variable {X : Cx} {pins : List (Addr × Obj)} {σ : St} {H : Hp} {s : Shared} {a : Addr} {kvs : List (Key × V)} {A : Around} {E : Value → Shared → Prop}
end


section
variable {X : Cx} {pins : List (Addr × Obj)} {σ : St} {H : Hp} {s : Shared} {a : Addr} {y : V} {u : Value} {A : Around} {E : Value → Shared → Prop}
end
end L2

namespace L2
open PySem PySem.Spec PyProof.Rows


section
variable {prog : Program} {w : World} {A : Around} {E : Value → Shared → Prop}


end

section
variable {X : Cx}
end
end L2

namespace L2
open PySem PySem.Spec PyProof.Rows


section
variable {X : Cx} {pins : List (Addr × Obj)} {σ : St} {H : Hp} {s : Shared} {h' : Heap}

/-! ### locking a thing while a statement runs -/
end
section
variable {X : Cx}

/-! ### one iterator just laid -/
end

/-! ### range with a step -/
section
variable {X : Cx} {tg : Expr}
end

/-! ### reversed(list) -/
section
variable {X : Cx} {tg : Expr}
end

/-! ### a str -/

/-! ### a dict's keys: any dict's entries -/
section
variable {prog : Program} {w : World} {A : Around} {E : Value → Shared → Prop} {s : Shared}
end

/-! ### a locked dict -/
section
variable {X : Cx} {pins : List (Addr × Obj)} {σ : St} {H : Hp} {s : Shared} {d : Addr} {o : Obj}
end

section
variable {P : Program} {w : World} {K : PySem.W.Frag} {tg : Expr} {d : Addr} {o : Obj} {es : Array DictEntry} {ep : Nat}
end

/-! ### for k in d, d.keys(), d.values(), d.items() -/
section
variable {X : Cx} {tg e : Expr} {td : TE} {apos cpos : Pos}
end

/-! ### enumerate(list) -/
/-! ### zip(list, list) -/
end L2

section 
namespace Bits
open PySem PyProof.Rows








end Bits
end 

section 
namespace TL
open PySem PySem.Builtin PySem.Builtin.Str PySem.StrLaws


/-! ### the list functions -/




/-! ### the model's split and partition are these -/




/-! ### computing spl and par -/


/-! ### digits -/
/-! ### words: x.split() -/
end TL
end 

namespace L2
open PySem PySem.Spec PyProof.Rows




section
variable {X : Cx} {pins : List (Addr × Obj)} {σ : St} {H : Hp} {s : Shared} {Q : VK}
end

section
variable {X : Cx}





/-! ### of a text alone -/

/-! ### of a text and a text -/

end

section
variable {X : Cx} {o e : Expr} {to te : TE}

end
end L2

namespace L2
open PySem PySem.Spec PyProof.Rows

section
variable {X : Cx}
end

/-! ### slices of a text -/


end L2

namespace Att
open PySem PySem.W PySem.Calls PyProof.Rows

/-! ### the script -/



/-! ### the attachment: holds_open's last premise (the goal 'hc' behind k_head) from a wpAny of the law's body -/



/-! ### rules over ANY heap (no ledger) from facts about the written part K: the library's own take a ledger (News) for what they write -/
section
variable {prog : Program} {w : World} {A : Around} {E : Value → Shared → Prop} {s : Shared} {K : Frag}





/-! the whole heap as the ledger: makes every rule that writes through a ledger a rule over any heap -/

end
end Att

namespace L2
open PySem PySem.Spec PyProof.Rows



end L2

namespace L2
open PySem PySem.Spec PyProof.Rows


end L2

/- THE LAST THEOREM (shape; LID, My.* are yours):
   My.Adr: a structure of the addresses that your layer names (classes, functions); My.Txt K t: a structure (Prop) of the equations over K;
   My.txt_mk : {K} {implicit addresses ..} (e1 : nsIn K mainGlobals "law" = some (some (.ref f))) (e2 : K.lookup f = some ⟨oc, od, .func (fnOf "law" "law" params body scope dV kV doc pm an cdv ct), sl⟩) (e3 : codeIn K cdv "law" = true) .. : ∃ t, My.Txt K t

set_option maxRecDepth 100000 in
set_option maxHeartbeats 0 in
theorem PySem.Challenge.cw_LID_holds : PySem.Challenge.rw_LID.Holds := by
  w_on; o_law; k_head; (case hw => w_witness2)
  k_fill
  refine L2.walk_of (l := PySem.Challenge.rw_LID) (n := 63) (k := 40) (x := "script") (CX := fun w => ..) (sp := fun _ => My.sp_law) rfl (by decide) rfl ⟨rfl, by decide, by decide⟩ (fun w h Y => PySem.W.kIn_of Y) ?F ?S ?C
  case F =>
    intro w mg fa h KX G hmg
    have T : ∃ t, My.Txt (L2.KOf KX) t := by
      dsimp only [L2.KOf]                          -- K must stand as «<heap const> w.params» for k_is
      refine' My.txt_mk ?e1 ?e2 ?e3 ..
      (case e1 => PySem.W.k_is)                    -- in the order: a name -> its address -> its object -> its parts
      (case e2 => PySem.W.k_is)
      ..
    obtain ⟨t, T⟩ := T
    have e0 := hmg.symm.trans (PySem.W.mg_of KX G T.law)
    cases e0                                       -- fa is the law's own address
    exact ⟨_, fun s u => .of_eq rfl, fun base kb nb => My.law_fn T kb nb⟩     -- if «.of_eq rfl» comes too early: refine' ⟨_, ?b, fun base kb nb => My.law_fn T kb nb⟩; exact fun s u => .of_eq rfl
  case S => exact fun w H a ns hl hO hS => ..
  case C => exact ..
(the tactic k_is has no namespace: write k_is) -/

/-! SHORT WORDS over the layer: a def of the text, its body, what a loop and a test want. -/
namespace L2
open PySem PySem.Spec PyProof.Rows

/-! ### the text by places -/
def defArgs (s : Stmt) : Arguments := match s with
  | .FunctionDef _ a _ _ _ _ _ _ _ _ => a
  | _ => { posonlyargs := [], args := [], vararg := none, kwonlyargs := [], kw_defaults := [], kwarg := none, defaults := [] }
def defBody (s : Stmt) : List Stmt := match s with
  | .FunctionDef _ _ b _ _ _ _ _ _ _ => b
  | _ => []
def defScope (s : Stmt) : Scope := match s with
  | .FunctionDef _ _ _ _ _ _ sc _ _ _ => sc
  | _ => { kind := .function, names := [], isGenerator := false, isCoroutine := false }

/-! ### no exception leaves a def -/
abbrev CX0 : CXT := fun _ _ _ _ _ _ => False
abbrev E0 : XK := fun _ _ _ => False
theorem pass0 {X : Cx} : Passes CX0 X E0 := fun _ _ _ _ _ _ _ h => h.elim

/-! ### a def (or method) of the text as it stands behind the top -/
structure Fun (K : PySem.W.Frag) (x qual : Str) (st : Stmt) (f : Addr) (fd : FuncData) : Prop where
  ex : ∃ (oc : Value) (od : Option Addr) (kV doc pm : Value) (an : Option Addr) (cdv ct : Value) (osl : Array (Option Value)),
    fd = PySem.W.fnOf x qual (defArgs st) (defBody st) (defScope st) .none kV doc pm an cdv ct ∧ K.lookup f = some ⟨oc, od, .func fd, osl⟩ ∧ PySem.W.codeIn K cdv qual = true
  kp : PySem.W.keepIn K (.ref f) = true
section
variable {P : Program} {w : World} {K : PySem.W.Frag} {mg : Str → Option Value} {base : Heap}
/-- THE RULE for a def: its body as a term of rules, and the reading of that term -/
theorem Fun.ok {x qual : Str} {st : Stmt} {f : Addr} {fd : FuncData} {N ps : List Str} {k : Nat} {sp : Sp} (F : Fun K x qual st f fd) (S : FnScope N ps (defScope st)) (len : ∀ vs H Q E, sp vs H Q E → vs.length = ps.length)
    (hbody : ∀ (cdv : Value) (A : Around) (outer : List Env) (s : Shared) (H : Hp) (vs : List V) (Q : VK) (E : XK), Room k (A.deeper (envOfC qual (defScope st) s.heap.objs.size f cdv)) → sp vs H Q E →
      ∃ t, PSs (cxOf CX0 P w K mg base N qual (defScope st) f cdv A outer s H E).nox (defBody st) t ∧ t { nx := fun _ H' => Q .non H', rt := Q } (start N vs) H) : FnOk P w K mg base CX0 (k + 1) f fd ps sp := by
  obtain ⟨oc, od, kV, doc, pm, an, cdv, ct, osl, rfl, lk, hcd⟩ := F.ex
  refine fn_of lk hcd S len fun A outer s H vs Q E hr hsp => ?_
  obtain ⟨t, h, q⟩ := hbody cdv A outer s H vs Q E hr hsp
  exact ⟨t, h.nox, q⟩
/-- how its arguments bind (no defaults): h is «fun _ _ _ _ _ _ us hl => match us, hl with | [_, _], _ => rfl», one _ a parameter -/
theorem Fun.binds {x qual : Str} {st : Stmt} {f : Addr} {fd : FuncData} {ps : List Str} (F : Fun K x qual st f fd)
    (h : ∀ (kV doc pm : Value) (an : Option Addr) (cdv ct : Value) (us : List Value), us.length = ps.length → bindArgs (PySem.W.fnOf x qual (defArgs st) (defBody st) (defScope st) .none kV doc pm an cdv ct) ⟨us, []⟩ = pure (ps.zip us)) : Binds K fd ps [] := by
  obtain ⟨oc, od, kV, doc, pm, an, cdv, ct, osl, rfl, lk, hcd⟩ := F.ex
  exact .all (h kV doc pm an cdv ct)
theorem fun_mk {x qual : Str} {st : Stmt} {f : Addr} {oc : Value} {od an : Option Addr} {osl : Array (Option Value)} {kV doc pm cdv ct : Value} (l : K.lookup f = some ⟨oc, od, .func (PySem.W.fnOf x qual (defArgs st) (defBody st) (defScope st) .none kV doc pm an cdv ct), osl⟩)
    (c : PySem.W.codeIn K cdv qual = true) (k : PySem.W.keepIn K (.ref f) = true) : Fun K x qual st f (PySem.W.fnOf x qual (defArgs st) (defBody st) (defScope st) .none kV doc pm an cdv ct) := ⟨⟨oc, od, kV, doc, pm, an, cdv, ct, osl, rfl, l, c⟩, k⟩
end
theorem small1000 {n : Nat} (h : n ≤ 1000) : n < sizeLine := Nat.lt_of_le_of_lt h (by decide)

/-! ### expressions in short: the name that stands in the i-th slot -/
section
variable {X : Cx}
theorem pv (i : Nat) {x : Str} {pos : Pos} (hN : X.N[i]? = some x := by rfl) (hv : Vis X.env.scope x := by first | exact Or.inl rfl | exact Or.inr (Or.inl rfl) | exact Or.inr (Or.inr rfl)) (hd : (x == ("__debug__" : Str)) = false := by decide)
    (hcd : (x == ("__classdict__" : Str)) = false := by decide) : PE X (.Name x pos) (tVar i) := pe_var hN hv hd hcd
end

/-! ### tests -/
theorem iteF {A B : Prop} (h : B) : if false = true then A else B := by
  rw [if_neg Bool.false_ne_true]
  exact h
theorem iteT {A B : Prop} (h : A) : if true = true then A else B := by
  rw [if_pos rfl]
  exact h
theorem ite2 {c A B : Prop} [Decidable c] (h1 : c → A) (h2 : ¬ c → B) : if c then A else B := by
  by_cases h : c
  · rw [if_pos h]
    exact h1 h
  · rw [if_neg h]
    exact h2 h

/-! ### heaps -/
/-- all that was tracked is as it was -/
def Same (H H' : Hp) : Prop := ∀ b o, H b = some o → H' b = some o
theorem Same.refl (H : Hp) : Same H H := fun _ _ h => h
theorem Same.trans {H H1 H2 : Hp} (a : Same H H1) (b : Same H1 H2) : Same H H2 := fun c o h => b c o (a c o h)
theorem Same.free {H H' : Hp} (e : Same H H') {l : Addr} (h : H' l = Option.none) : H l = Option.none := by
  cases q : H l with
  | none => rfl
  | some o =>
    rw [e l o q] at h
    cases h
theorem Same.seq {K : PySem.W.Frag} {H H' : Hp} {a : Addr} {xs : List V} (e : Same H H') (h : SqL K H a xs) : SqL K H' a xs := by
  rcases h with (h | ⟨o, h⟩) | h
  · exact .inl (.inl (e _ _ h))
  · exact .inl (.inr ⟨o, e _ _ h⟩)
  · exact .inr h

/-! ### a dict's pairs: keys that differ -/
section
variable {κ : Type} [DecidableEq κ]
end
/-! ### lists -/
theorem at_of {xs : List V} {z : Int} {j : Nat} {v : V} (e : z = (j : Int)) (h : xs[j]? = some v) : atI xs z = some v := by
  rw [e]
  exact atI_nat h
end L2

end
section
set_option Elab.async false
set_option linter.all false
set_option maxRecDepth 100000
set_option maxHeartbeats 2000000
namespace L2
open PySem PySem.Spec PyProof.Rows
open PySem.W (WData Codec OpenSpec Well WellAll ReadsW ReadsAllW)
/-! ### an answer as data -/
mutual
/-- x stands for the datum d, lists and tuples all the way -/
inductive Dw (K : PySem.W.Frag) (H : Hp) : V → WData → Prop
  | non : Dw K H .non .none
  | bl (b : Bool) : Dw K H (.bl b) (.bool b)
  | int (i : Int) : Dw K H (.int i) (.int i)
  | str (x : Str) : Dw K H (.str x) (.str x)
  | byt (b : Array UInt8) : Dw K H (.byt b) (.bytes b.toList)
  | lst {a : Addr} {xs : List V} {ds : List WData} : SqL K H a xs → DwAll K H xs ds → Dw K H (.ref a) (.list ds)
  | tup {a : Addr} {xs : List V} {ds : List WData} : SqT K H a xs → DwAll K H xs ds → Dw K H (.ref a) (.tuple ds)
inductive DwAll (K : PySem.W.Frag) (H : Hp) : List V → List WData → Prop
  | nil : DwAll K H [] []
  | cons {v : V} {vs : List V} {d : WData} {ds : List WData} : Dw K H v d → DwAll K H vs ds → DwAll K H (v :: vs) (d :: ds)
end
theorem dw_ints {K : PySem.W.Frag} {H : Hp} : ∀ ns : List Int, DwAll K H (ns.map V.int) (ns.map WData.int)
  | [] => .nil
  | n :: r => .cons (.int n) (dw_ints r)
theorem ints_dw {K : PySem.W.Frag} {H : Hp} : ∀ (ns : List Int) (xs : List V), DwAll K H xs (ns.map WData.int) → xs = ns.map V.int
  | [], xs, h => by
    cases h
    rfl
  | n :: r, xs, h => by
    cases h with
    | cons h1 h2 =>
      cases h1
      rw [ints_dw r _ h2] <;> rfl
section
variable {P : Program} {w : World} {K : PySem.W.Frag} {H : Hp} {h : Heap} {R : PySem.W.WRecords} {cl : Str → Option Addr}
theorem sqL_at {a : Addr} {xs : List V} (hok : HOk P w H h) (KX : K.In h) (q : SqL K H a xs) : ∃ (its : List Value) (o : Obj) (n : Nat), Vals xs its ∧ h.get? a = some o ∧ o.cls = .type "list" ∧ o.data = .seq its.toArray n := by
  rcases q with q | ⟨o, its, n, e, hc, _, hd, _, hv⟩
  · obtain ⟨_, its, n, hv, e⟩ := (show ObjOk P w H h a (.lst xs) from q.ok hok)
    exact ⟨its, _, n, hv, e, rfl, rfl⟩
  · exact ⟨its.toList, o, n, hv, KX _ _ e, hc, by simp [hd]⟩
theorem sqT_at {a : Addr} {xs : List V} (hok : HOk P w H h) (KX : K.In h) (q : SqT K H a xs) : ∃ (its : List Value) (o : Obj) (n : Nat), Vals xs its ∧ h.get? a = some o ∧ o.cls = .type "tuple" ∧ o.data = .seq its.toArray n := by
  rcases q with q | ⟨o, its, n, e, hc, hd, _, hv⟩
  · obtain ⟨_, its, hv, o, e, hc, n, hd⟩ := (show ObjOk P w H h a (.tup xs) from q.ok hok)
    exact ⟨its, o, n, hv, e, hc, hd⟩
  · exact ⟨its.toList, o, n, hv, KX _ _ e, hc, by simp [hd]⟩
mutual
theorem Dw.reads (hok : HOk P w H h) (KX : K.In h) : ∀ (d : WData) (v : V) (u : Value), Dw K H v d → RelV v u → ∃ as, ReadsW R cl h u d as
  | .none, _, _, x, r => by
    cases x
    cases r
    exact ⟨_, ReadsW.none⟩
  | .bool b, _, _, x, r => by
    cases x
    cases r
    exact ⟨_, ReadsW.bool b⟩
  | .int i, _, _, x, r => by
    cases x
    obtain ⟨t, rfl⟩ := r
    exact ⟨_, ReadsW.int i t⟩
  | .str s, _, _, x, r => by
    cases x
    obtain ⟨t, rfl⟩ := r
    exact ⟨_, ReadsW.str s t⟩
  | .bytes b, _, _, x, r => by
    cases x
    obtain ⟨t, rfl⟩ := r
    exact ⟨_, ReadsW.bytes _ t⟩
  | .list ds, _, _, x, r => by
    cases x with
    | lst hs ha =>
      cases r
      obtain ⟨its, o, n, rv, ho, hc, hd⟩ := sqL_at hok KX hs
      obtain ⟨as, hr⟩ := Dw.readsAll hok KX ds _ its ha rv
      exact ⟨_, ReadsW.list ho hc hd hr⟩
  | .tuple ds, _, _, x, r => by
    cases x with
    | tup hs ha =>
      cases r
      obtain ⟨its, o, n, rv, ho, hc, hd⟩ := sqT_at hok KX hs
      obtain ⟨as, hr⟩ := Dw.readsAll hok KX ds _ its ha rv
      exact ⟨_, ReadsW.tuple ho hc hd hr⟩
  | .float _, _, _, x, _ => by cases x
  | .dict _, _, _, x, _ => by cases x
  | .bytearray _, _, _, x, _ => by cases x
  | .set _, _, _, x, _ => by cases x
  | .frozenset _, _, _, x, _ => by cases x
  | .obj _ _, _, _, x, _ => by cases x
theorem Dw.readsAll (hok : HOk P w H h) (KX : K.In h) : ∀ (ds : List WData) (vs : List V) (us : List Value), DwAll K H vs ds → Vals vs us → ∃ as, ReadsAllW R cl h us ds as
  | [], _, _, x, r => by
    cases x
    cases r
    exact ⟨_, ReadsAllW.nil⟩
  | d :: ds, _, _, x, r => by
    cases x with
    | cons h1 h2 =>
      cases r with
      | cons r1 r2 =>
        obtain ⟨as, q1⟩ := Dw.reads hok KX d _ _ h1 r1
        obtain ⟨bs, q2⟩ := Dw.readsAll hok KX ds _ _ h2 r2
        exact ⟨_, ReadsAllW.cons q1 q2⟩
end
end
/-! ### the arguments -/
mutual
/-- data that a codec tells -/
def plW : WData → Bool
  | .none => true
  | .bool _ => true
  | .int _ => true
  | .str _ => true
  | .bytes _ => true
  | .list xs => plWs xs
  | .tuple xs => plWs xs
  | _ => false
def plWs : List WData → Bool
  | [] => true
  | x :: r => plW x && plWs r
end
theorem plWs_map {α : Type} {f : α → WData} (h : ∀ a, plW (f a) = true) : ∀ l : List α, plWs (l.map f) = true
  | [] => rfl
  | x :: r => by
    show (plW (f x) && plWs (r.map f)) = true
    rw [h x, plWs_map h r] <;> rfl
theorem pl_enc : ∀ (c : Codec) (a : c.denote), plW (c.enc a) = true
  | .unit, _ => rfl
  | .bool, _ => rfl
  | .int _ _, _ => rfl
  | .nat _ _, _ => rfl
  | .u8, _ => rfl
  | .bytes _ _, _ => rfl
  | .text _ _ _ _, _ => rfl
  | .list _ _ c, a => plWs_map (fun x => pl_enc c x) a
  | .pair c d, a => by
    show (plW (c.enc a.1) && (plW (d.enc a.2) && true)) = true
    rw [pl_enc c a.1, pl_enc d a.2] <;> rfl
  | .triple c d e, a => by
    show (plW (c.enc a.1) && (plW (d.enc a.2.1) && (plW (e.enc a.2.2) && true))) = true
    rw [pl_enc c a.1, pl_enc d a.2.1, pl_enc e a.2.2] <;> rfl
  | .option c, none => rfl
  | .option c, some x => pl_enc c x
theorem pl_encAll : ∀ (cs : List Codec) (a : Codec.denoteAll cs), plWs (Codec.encAll cs a) = true
  | [], _ => rfl
  | c :: cs, a => by
    show (plW (c.enc a.1) && plWs (Codec.encAll cs a.2)) = true
    rw [pl_enc c a.1, pl_encAll cs a.2] <;> rfl
theorem weight_mem : ∀ {xs : List WData} {d : WData}, d ∈ xs → d.weight ≤ WData.weightAll xs
  | [], d, h => absurd h (by simp)
  | x :: r, d, h => by
    show d.weight ≤ x.weight + 1 + WData.weightAll r
    rcases List.mem_cons.mp h with e | m
    · rw [e]
      omega
    · have z := weight_mem m
      omega
def toV : Value → V
  | .none => .non
  | .bool b => .bl b
  | .int i _ => .int i
  | .str x _ => .str x
  | .bytes b _ => .byt b
  | .ref a => .ref a
  | _ => .non
/-- a value of the arguments, its objects among A -/
def OkU (A : List Addr) : Value → Prop
  | .none => True
  | .bool _ => True
  | .int _ _ => True
  | .str _ _ => True
  | .bytes _ _ => True
  | .ref a => a ∈ A
  | _ => False
theorem OkU.mono {A B : List Addr} (h : ∀ a ∈ A, a ∈ B) : ∀ {u : Value}, OkU A u → OkU B u := fun {u} x => by
  cases u with
  | ref a => exact h a x
  | none => trivial
  | bool b => trivial
  | int i t => trivial
  | str s t => trivial
  | bytes b t => trivial
  | _ => exact False.elim x
theorem relV_toV {A : List Addr} {u : Value} (x : OkU A u) : RelV (toV u) u := by
  cases u with
  | ref a => rfl
  | none => rfl
  | bool b => rfl
  | int i t => exact ⟨t, rfl⟩
  | str s t => exact ⟨t, rfl⟩
  | bytes b t => exact ⟨t, rfl⟩
  | _ => exact False.elim x
theorem vals_toV {A : List Addr} : ∀ {vs : List Value}, (∀ u ∈ vs, OkU A u) → Vals (vs.map toV) vs
  | [], _ => .nil
  | u :: r, h => .cons (relV_toV (h u (List.mem_cons_self ..))) (vals_toV fun x hx => h x (List.mem_cons_of_mem _ hx))
/-- an object of the arguments -/
def ArgOb (h : Heap) (A : List Addr) (a : Addr) : Prop := ∃ vs : List Value, vs.length ≤ sizeLine ∧ (∀ u ∈ vs, OkU A u) ∧
  (h.get? a = some { cls := .type "list", data := .seq vs.toArray } ∨ h.get? a = some { cls := .type "tuple", data := .seq vs.toArray })
theorem ArgOb.mono {h : Heap} {A B : List Addr} {a : Addr} (k : ∀ a ∈ A, a ∈ B) (x : ArgOb h A a) : ArgOb h B a := by
  obtain ⟨vs, h1, h2, h3⟩ := x
  exact ⟨vs, h1, fun u hu => (h2 u hu).mono k, h3⟩
theorem wellAll_len {P : Params} {h : Heap} : ∀ {vs : List Value} {ds : List WData}, WellAll P h vs ds → vs.length = ds.length
  | _, _, .nil => rfl
  | _, _, .cons _ b => by
    show _ + 1 = _ + 1
    rw [wellAll_len b]
theorem well_list {P : Params} {h : Heap} {v : Value} {ds : List WData} (x : Well P h v (.list ds)) : ∃ (a : Addr) (vs : List Value), v = .ref a ∧ h.get? a = some { cls := .type "list", data := .seq vs.toArray } ∧ WellAll P h vs ds := by
  cases x with
  | list ho hall => exact ⟨_, _, rfl, ho, hall⟩
theorem well_tuple {P : Params} {h : Heap} {v : Value} {ds : List WData} (x : Well P h v (.tuple ds)) : ∃ (a : Addr) (vs : List Value), v = .ref a ∧ h.get? a = some { cls := .type "tuple", data := .seq vs.toArray } ∧ WellAll P h vs ds := by
  cases x with
  | tuple ho hall => exact ⟨_, _, rfl, ho, hall⟩
theorem well_cons {P : Params} {h : Heap} {us : List Value} {d : WData} {ds : List WData} (x : WellAll P h us (d :: ds)) : ∃ (v : Value) (vs : List Value), us = v :: vs ∧ Well P h v d ∧ WellAll P h vs ds := by
  cases x with
  | cons a b => exact ⟨_, _, rfl, a, b⟩
theorem line_of {n : Nat} (h : n ≤ 1048576) : n ≤ sizeLine := Nat.le_trans h (by decide)
section
variable {P : Params} {h : Heap}
mutual
theorem area_one : ∀ (d : WData) (v : Value), Well P h v d → plW d = true → d.weight ≤ 1048576 → ∃ A : List Addr, OkU A v ∧ ∀ a ∈ A, ArgOb h A a
  | .none, _, x, _, _ => by
    cases x
    exact ⟨[], trivial, fun a m => absurd m (by simp)⟩
  | .bool b, _, x, _, _ => by
    cases x
    exact ⟨[], trivial, fun a m => absurd m (by simp)⟩
  | .int i, _, x, _, _ => by
    cases x
    exact ⟨[], trivial, fun a m => absurd m (by simp)⟩
  | .str s, _, x, _, _ => by
    cases x
    exact ⟨[], trivial, fun a m => absurd m (by simp)⟩
  | .bytes b, _, x, _, _ => by
    cases x
    exact ⟨[], trivial, fun a m => absurd m (by simp)⟩
  | .list ds, _, x, p, z => by
    obtain ⟨a, vs, rfl, ho, hall⟩ := well_list x
    have z2 : WData.weightAll ds ≤ 1048576 := z
    obtain ⟨A, h1, h2⟩ := area_all ds _ hall p fun d hd => Nat.le_trans (weight_mem hd) z2
    have k : ∀ b ∈ A, b ∈ a :: A := fun b hb => List.mem_cons_of_mem _ hb
    refine ⟨a :: A, List.mem_cons_self .., fun b hb => ?_⟩
    rcases List.mem_cons.mp hb with e | m
    · rw [e]
      exact ⟨vs, line_of (by rw [wellAll_len hall]; exact Nat.le_trans (PySem.W.length_le_weightAllW ds) z2), fun u hu => (h1 u hu).mono k, .inl ho⟩
    · exact (h2 b m).mono k
  | .tuple ds, _, x, p, z => by
    obtain ⟨a, vs, rfl, ho, hall⟩ := well_tuple x
    have z2 : WData.weightAll ds ≤ 1048576 := z
    obtain ⟨A, h1, h2⟩ := area_all ds _ hall p fun d hd => Nat.le_trans (weight_mem hd) z2
    have k : ∀ b ∈ A, b ∈ a :: A := fun b hb => List.mem_cons_of_mem _ hb
    refine ⟨a :: A, List.mem_cons_self .., fun b hb => ?_⟩
    rcases List.mem_cons.mp hb with e | m
    · rw [e]
      exact ⟨vs, line_of (by rw [wellAll_len hall]; exact Nat.le_trans (PySem.W.length_le_weightAllW ds) z2), fun u hu => (h1 u hu).mono k, .inr ho⟩
    · exact (h2 b m).mono k
  | .float _, _, _, p, _ => Bool.noConfusion (show false = true from p)
  | .dict _, _, _, p, _ => Bool.noConfusion (show false = true from p)
  | .bytearray _, _, _, p, _ => Bool.noConfusion (show false = true from p)
  | .set _, _, _, p, _ => Bool.noConfusion (show false = true from p)
  | .frozenset _, _, _, p, _ => Bool.noConfusion (show false = true from p)
  | .obj _ _, _, _, p, _ => Bool.noConfusion (show false = true from p)
theorem area_all : ∀ (ds : List WData) (vs : List Value), WellAll P h vs ds → plWs ds = true → (∀ d ∈ ds, d.weight ≤ 1048576) → ∃ A : List Addr, (∀ u ∈ vs, OkU A u) ∧ ∀ a ∈ A, ArgOb h A a
  | [], _, x, _, _ => by
    cases x
    exact ⟨[], fun u m => absurd m (by simp), fun a m => absurd m (by simp)⟩
  | d :: ds, _, x, p, z => by
    obtain ⟨v, vs, rfl, x1, x2⟩ := well_cons x
    have q : plW d = true ∧ plWs ds = true := Bool.and_eq_true_iff.mp p
    obtain ⟨A, a1, a2⟩ := area_one d v x1 q.1 (z d (List.mem_cons_self ..))
    obtain ⟨B, b1, b2⟩ := area_all ds vs x2 q.2 fun e he => z e (List.mem_cons_of_mem _ he)
    have kA : ∀ b ∈ A, b ∈ A ++ B := fun b hb => List.mem_append.mpr (.inl hb)
    have kB : ∀ b ∈ B, b ∈ A ++ B := fun b hb => List.mem_append.mpr (.inr hb)
    refine ⟨A ++ B, fun u hu => ?_, fun b hb => ?_⟩
    · rcases List.mem_cons.mp hu with e | m
      · rw [e]
        exact a1.mono kA
      · exact (b1 u m).mono kB
    · rcases List.mem_append.mp hb with m | m
      · exact (a2 b m).mono kA
      · exact (b2 b m).mono kB
end
end
/-- what is tracked of an argument's object -/
def hoOf (o : Obj) : Option HO := match o.data with
  | .seq vs _ => if (o.cls == Value.type "list") = true then some (.frz o (.lst (vs.toList.map toV))) else some (.frz o (.tup (vs.toList.map toV)))
  | _ => none
def argH (K : PySem.W.Frag) (h : Heap) (A : List Addr) : Hp := fun b => if b ∈ A then (if (K.lookup b).isNone = true then (h.get? b).bind hoOf else none) else none
/-- nothing is tracked but what is known to the object -/
def OnlyF (H : Hp) : Prop := ∀ b, H b = none ∨ ∃ o u, H b = some (.frz o u)
theorem hoOf_lst (vs : List Value) : hoOf { cls := .type "list", data := .seq vs.toArray } = some (.frz { cls := .type "list", data := .seq vs.toArray } (.lst (vs.map toV))) := by
  show (if (Value.type "list" == Value.type "list") = true then some (HO.frz { cls := .type "list", data := .seq vs.toArray } (.lst (vs.toArray.toList.map toV))) else some (HO.frz { cls := .type "list", data := .seq vs.toArray } (.tup (vs.toArray.toList.map toV)))) = _
  rw [if_pos (beq_self_eq_true _)]
theorem hoOf_tup (vs : List Value) : hoOf { cls := .type "tuple", data := .seq vs.toArray } = some (.frz { cls := .type "tuple", data := .seq vs.toArray } (.tup (vs.map toV))) := by
  show (if (Value.type "tuple" == Value.type "list") = true then some (HO.frz { cls := .type "tuple", data := .seq vs.toArray } (.lst (vs.toArray.toList.map toV))) else some (HO.frz { cls := .type "tuple", data := .seq vs.toArray } (.tup (vs.toArray.toList.map toV)))) = _
  rw [if_neg (by decide)]
section
variable {P : Program} {w : World} {K : PySem.W.Frag} {h : Heap} {A : List Addr}
theorem argH_at {b : Addr} {o : Obj} (hb : b ∈ A) (hk : K.lookup b = none) (e : h.get? b = some o) : argH K h A b = hoOf o := by
  unfold argH
  rw [if_pos hb, hk, if_pos (show (none : Option Obj).isNone = true from rfl), e] <;> rfl
theorem of_argH {b : Addr} {u : HO} (q : argH K h A b = some u) : b ∈ A ∧ K.lookup b = none := by
  unfold argH at q
  by_cases hb : b ∈ A
  · rw [if_pos hb] at q
    cases hk : K.lookup b with
    | none => exact ⟨hb, rfl⟩
    | some o =>
      rw [hk, if_neg (by simp)] at q
      cases q
  · rw [if_neg hb] at q
    cases q
/-- what stands tracked -/
theorem argH_is (ar : ∀ a ∈ A, ArgOb h A a) {b : Addr} {u : HO} (q : argH K h A b = some u) : K.lookup b = none ∧ ∃ vs : List Value, vs.length ≤ sizeLine ∧ (∀ u ∈ vs, OkU A u) ∧
    ((h.get? b = some { cls := .type "list", data := .seq vs.toArray } ∧ u = .frz { cls := .type "list", data := .seq vs.toArray } (.lst (vs.map toV))) ∨
     (h.get? b = some { cls := .type "tuple", data := .seq vs.toArray } ∧ u = .frz { cls := .type "tuple", data := .seq vs.toArray } (.tup (vs.map toV)))) := by
  obtain ⟨hb, hk⟩ := of_argH q
  obtain ⟨vs, h1, h2, h3⟩ := ar b hb
  refine ⟨hk, vs, h1, h2, ?_⟩
  rcases h3 with e | e
  · rw [argH_at hb hk e, hoOf_lst] at q
    exact .inl ⟨e, (Option.some.inj q).symm⟩
  · rw [argH_at hb hk e, hoOf_tup] at q
    exact .inr ⟨e, (Option.some.inj q).symm⟩
theorem argH_only (ar : ∀ a ∈ A, ArgOb h A a) : OnlyF (argH K h A) := fun b => by
  cases q : argH K h A b with
  | none => exact .inl rfl
  | some u =>
    obtain ⟨_, vs, _, _, ⟨_, e⟩ | ⟨_, e⟩⟩ := argH_is ar q
    · exact .inr ⟨_, _, by rw [e]⟩
    · exact .inr ⟨_, _, by rw [e]⟩
theorem argH_ok (ar : ∀ a ∈ A, ArgOb h A a) : HOk P w (argH K h A) h := fun b u q => by
  obtain ⟨_, vs, h1, h2, ⟨e, rfl⟩ | ⟨e, rfl⟩⟩ := argH_is ar q
  · exact ⟨e, by rw [List.length_map]; exact h1, vs, _, vals_toV h2, e⟩
  · exact ⟨e, by rw [List.length_map]; exact h1, vs, vals_toV h2, _, e, rfl, _, rfl⟩
theorem seq_inj {c c' : Value} {vs us : List Value} (e : (some { cls := c, data := .seq vs.toArray } : Option Obj) = some { cls := c', data := .seq us.toArray }) : c = c' ∧ vs = us := by
  have e1 := Option.some.inj e
  have e2 : c = c' := congrArg Obj.cls e1
  have e3 : Data.seq vs.toArray = Data.seq us.toArray := congrArg Obj.data e1
  injection e3 with e4
  refine ⟨e2, ?_⟩
  have e5 := congrArg Array.toList e4
  simpa using e5
/-- a list argument -/
theorem argL (KX : K.In h) (ar : ∀ a ∈ A, ArgOb h A a) {a : Addr} {vs : List Value} (ha : a ∈ A) (e : h.get? a = some { cls := .type "list", data := .seq vs.toArray }) : (∀ u ∈ vs, OkU A u) ∧ SqL K (argH K h A) a (vs.map toV) := by
  obtain ⟨us, h1, h2, h3⟩ := ar a ha
  have hu : us = vs := by
    rcases h3 with q | q
    · rw [e] at q
      exact (seq_inj q).2.symm
    · rw [e] at q
      exact absurd (Value.type.inj (seq_inj q).1) (by decide)
  subst hu
  refine ⟨h2, ?_⟩
  cases hk : K.lookup a with
  | none => exact .inl (.inr ⟨_, by rw [argH_at ha hk e, hoOf_lst]⟩)
  | some o =>
    have e2 := KX a o hk
    rw [e] at e2
    obtain rfl := Option.some.inj e2
    exact .inr ⟨_, us.toArray, _, hk, rfl, rfl, rfl, by rw [List.size_toArray]; exact h1, by simpa using vals_toV h2⟩
theorem argT (KX : K.In h) (ar : ∀ a ∈ A, ArgOb h A a) {a : Addr} {vs : List Value} (ha : a ∈ A) (e : h.get? a = some { cls := .type "tuple", data := .seq vs.toArray }) : (∀ u ∈ vs, OkU A u) ∧ SqT K (argH K h A) a (vs.map toV) := by
  obtain ⟨us, h1, h2, h3⟩ := ar a ha
  have hu : us = vs := by
    rcases h3 with q | q
    · rw [e] at q
      exact absurd (Value.type.inj (seq_inj q).1) (by decide)
    · rw [e] at q
      exact (seq_inj q).2.symm
  subst hu
  refine ⟨h2, ?_⟩
  cases hk : K.lookup a with
  | none => exact .inl (.inr ⟨_, by rw [argH_at ha hk e, hoOf_tup]⟩)
  | some o =>
    have e2 := KX a o hk
    rw [e] at e2
    obtain rfl := Option.some.inj e2
    exact .inr ⟨_, us.toArray, _, hk, rfl, rfl, by rw [List.size_toArray]; exact h1, by simpa using vals_toV h2⟩
mutual
theorem dw_one {Pm : Params} (KX : K.In h) (ar : ∀ a ∈ A, ArgOb h A a) : ∀ (d : WData) (v : Value), Well Pm h v d → plW d = true → OkU A v → Dw K (argH K h A) (toV v) d
  | .none, _, x, _, _ => by
    cases x
    exact .non
  | .bool b, _, x, _, _ => by
    cases x
    exact .bl b
  | .int i, _, x, _, _ => by
    cases x
    exact .int i
  | .str s, _, x, _, _ => by
    cases x
    exact .str s
  | .bytes b, _, x, _, _ => by
    cases x
    have z := Dw.byt (K := K) (H := argH K h A) b.toArray
    exact z
  | .list ds, _, x, p, hu => by
    obtain ⟨a, vs, rfl, ho, hall⟩ := well_list x
    obtain ⟨h2, hs⟩ := argL KX ar hu ho
    exact .lst hs (dw_all KX ar ds _ hall p h2)
  | .tuple ds, _, x, p, hu => by
    obtain ⟨a, vs, rfl, ho, hall⟩ := well_tuple x
    obtain ⟨h2, hs⟩ := argT KX ar hu ho
    exact .tup hs (dw_all KX ar ds _ hall p h2)
  | .float _, _, _, p, _ => Bool.noConfusion (show false = true from p)
  | .dict _, _, _, p, _ => Bool.noConfusion (show false = true from p)
  | .bytearray _, _, _, p, _ => Bool.noConfusion (show false = true from p)
  | .set _, _, _, p, _ => Bool.noConfusion (show false = true from p)
  | .frozenset _, _, _, p, _ => Bool.noConfusion (show false = true from p)
  | .obj _ _, _, _, p, _ => Bool.noConfusion (show false = true from p)
theorem dw_all {Pm : Params} (KX : K.In h) (ar : ∀ a ∈ A, ArgOb h A a) : ∀ (ds : List WData) (vs : List Value), WellAll Pm h vs ds → plWs ds = true → (∀ u ∈ vs, OkU A u) → DwAll K (argH K h A) (vs.map toV) ds
  | [], _, x, _, _ => by
    cases x
    exact .nil
  | d :: ds, _, x, p, hu => by
    obtain ⟨v, vs, rfl, x1, x2⟩ := well_cons x
    have q : plW d = true ∧ plWs ds = true := Bool.and_eq_true_iff.mp p
    exact .cons (dw_one KX ar d v x1 q.1 (hu _ (List.mem_cons_self ..))) (dw_all KX ar ds vs x2 q.2 fun u m => hu u (List.mem_cons_of_mem _ m))
end
end
/-! ### the call -/
theorem spec_call {P : Program} {w : World} {K : PySem.W.Frag} {mg mb : Str → Option Value} {CX : CXT} {k : Nat} {fa : Addr} {fd : FuncData} {ps : List Str} {sp : Sp} {s₁ : Shared} {vals : List Value} {ds : List WData} {R : PySem.W.WRecords} {cl : Str → Option Addr} {d0 : WData}
    (KX : K.In s₁.heap) (hns : s₁.heap.Ns mainGlobals mg) (hb : s₁.heap.Ns builtinsNs mb) (hbb : ∀ x : Str, x ≠ "__name__" → mb x = bootBuiltins x) (hlim : s₁.heap.NoLimit) (hg : s₁.gens = #[])
    (hwl : WellAll w.params s₁.heap vals ds) (hpl : plWs ds = true) (hwt : ∀ d ∈ ds, d.weight ≤ 1048576) (hr : Room k callerA)
    (F : ∀ base : Heap, K.In base → base.Ns mainGlobals mg → FnOk P w K mg base CX k fa fd ps sp) (hbind : ∀ (s : Shared) (us : List Value), us.length = ps.length → BindsTo s fd ⟨us, []⟩ (ps.zip us)) (hlen : ds.length = ps.length)
    (hsp : ∀ (H : Hp) (xs : List V), OnlyF H → DwAll K H xs ds → sp xs H (fun v H' => Dw K H' v d0) fun _ _ _ => False)
    (hCX : ∀ H e s', CX [] H s₁ (fun _ _ _ => False) e s' → False) :
    codeAny (model P w) callerA (.call (.ref fa) ⟨vals, []⟩) (fun r s' => ∃ u as, r = .ok (.ret u) ∧ ReadsW R cl s'.heap u d0 as ∧ OldK s₁.heap s'.heap ∧ s'.os = s₁.os ∧ AllBare s'.gens) s₁ := by
  obtain ⟨A, ho, ar⟩ := area_all ds vals hwl hpl hwt
  have hO : OnlyF (argH K s₁.heap A) := argH_only ar
  have hok : HOk P w (argH K s₁.heap A) s₁.heap := argH_ok ar
  have hS := dw_all KX ar ds vals hwl hpl ho
  have hV := vals_toV ho
  have hK : ∀ b u, argH K s₁.heap A b = some u → K.lookup b = none := fun b u q => (argH_is ar q).1
  have noA : ∀ {b : Addr} {o : Obj} {es : Array DictEntry} {ep : Nat}, s₁.heap.get? b = some o → o.data = .dict es ep → argH K s₁.heap A b = none := fun {b o es ep} e d => by
    cases q : argH K s₁.heap A b with
    | none => rfl
    | some u =>
      obtain ⟨_, vs, _, _, ⟨e2, _⟩ | ⟨e2, _⟩⟩ := argH_is ar q
      · rw [e2] at e
        cases e
        have d' : Data.seq vs.toArray _ = Data.dict es ep := d
        cases d'
      · rw [e2] at e
        cases e
        have d' : Data.seq vs.toArray _ = Data.dict es ep := d
        cases d'
  generalize argH K s₁.heap A = H at hO hok hS hK noA
  have base_of : ∀ {b : Addr} {o : Obj}, s₁.heap.get? b = some o → H b = none → (hidT s₁.heap H).get? b = some o := fun e n => hidT_get e n
  have nsK : ∀ {b : Addr} {m : Str → Option Value}, s₁.heap.Ns b m → (hidT s₁.heap H).Ns b m := fun {b m} ⟨o, es, ep, e, d, r⟩ => ⟨o, es, ep, base_of e (noA e d), d, r⟩
  have nK : ∀ b o, K.lookup b = some o → H b = none := fun b o e => by
    cases q : H b with
    | none => rfl
    | some u =>
      rw [hK b u q] at e
      cases e
  have hKb : K.In (hidT s₁.heap H) := fun b o e => base_of (KX b o e) (nK b o e)
  have hM : Mod K mg (hidT s₁.heap H) := ⟨hKb, nsK hns, ⟨mb, nsK hb, hbb⟩, let ⟨mc, h1, h2⟩ := hlim; ⟨mc, nsK h1, h2⟩⟩
  have e0 : Env0 P w K mg (hidT s₁.heap H) callerA [] s₁ H := ⟨rfl, hM, fun b o e => of_hidT e, Nat.le_of_eq (hidT_size _ _), trivial, fun b hb => absurd (show b ∈ ([] : List Addr) from hb) (by simp), hok, .of_eq hg⟩
  have hl : vals.length = ps.length := by rw [wellAll_len hwl]; exact hlen
  refine codeAny_mono ((F _ hKb (nsK hns)).run callerA [] s₁ H ⟨vals, []⟩ vals (vals.map toV) _ _ hr e0 (hbind s₁ vals hl) hV (hsp H _ hO hS)) fun r s' x => ?_
  cases r with
  | error e => exact (hCX H e s' x).elim
  | ok fl =>
    cases fl with
    | next => exact False.elim x
    | brk => exact False.elim x
    | cont => exact False.elim x
    | ret u =>
      obtain ⟨v, H', os, bare, un, hok', r', q⟩ := x
      have kept : ∀ b o, s₁.heap.get? b = some o → s'.heap.get? b = some o := fun b o e => by
        cases q2 : H b with
        | none => exact un.keep b o e q2 (by intro z; exact absurd (show b ∈ ([] : List Addr) from z) (by simp)) (by simp)
        | some u2 =>
          rcases hO b with z | ⟨ob, u3, z⟩
          · rw [q2] at z
            cases z
          · have z2 := un.frzs b ob _ z
            obtain ⟨e1, _⟩ := hok b _ z
            obtain ⟨e2, _⟩ := hok' b _ z2
            rw [e] at e1
            cases e1
            exact e2
      have KX' : K.In s'.heap := fun b o e => kept b o (KX b o e)
      obtain ⟨as, hrd⟩ := Dw.reads (R := R) (cl := cl) hok' KX' d0 v u q r'
      exact ⟨u, as, rfl, hrd, OldK.of_keep kept, os, bare⟩
/-! ### the row -/
theorem layable_weight {ds : List WData} (h : WData.layableAll ds = true) : ∀ d ∈ ds, d.weight ≤ 1048576 := fun d hd =>
  (PySem.W.layableW_iff.mp (List.all_eq_true.mp h d hd)).2.2
theorem encAll_len : ∀ (cs : List Codec) (a : Codec.denoteAll cs), (Codec.encAll cs a).length = cs.length
  | [], _ => rfl
  | c :: cs, a => by
    show (Codec.encAll cs a.2).length + 1 = cs.length + 1
    rw [encAll_len cs a.2]
/-- the goal that k_headS leaves (case hc), from the promise of the row's def: whatever the arguments that the codecs let and the row asks for, the def gives what stands for enc (f ..) -/
theorem walk_spec {r : OpenSpec} {k : Nat} {q : Program} {loose : List Str} {XP : (Str → Option Value) → Heap → Prop} {YP : World → Heap → Prop} {d : DefRec} {K : Params → PySem.W.Frag} {CX : World → CXT} {ps : List Str} {sp : World → Sp}
    (hwell : r.wellSaid = true) (hdf : d.params.defaults = []) (hlen : r.args.length = ps.length) (hr : Room k callerA)
    (hY : ∀ (w : World) (h : Heap), YP w h → (K w.params).In h)
    (F : ∀ (w : World) (mg : Str → Option Value) (fa : Addr) (h : Heap), YP w h → (K w.params).In h → h.Ns mainGlobals mg → mg d.name = some (.ref fa) →
      ∃ fd : FuncData, (∀ (s : Shared) (us : List Value), us.length = ps.length → BindsTo s fd ⟨us, []⟩ (ps.zip us)) ∧
        ∀ base : Heap, (K w.params).In base → base.Ns mainGlobals mg → FnOk r.prog w (K w.params) mg base (CX w) k fa fd ps (sp w))
    (hsp : ∀ (w : World) (H : Hp) (xs : List V) (a : Codec.denoteAll r.args), OnlyF H → Codec.withinAll r.args a = true → Codec.app r.args r.asked a = true → DwAll (K w.params) H xs (Codec.encAll r.args a) →
      sp w xs H (fun v H' => Dw (K w.params) H' v (r.ret.enc (Codec.app r.args r.f a))) fun _ _ _ => False)
    (hCX : ∀ (w : World) (H : Hp) (s : Shared) (e : Value) (s' : Shared), CX w [] H s (fun _ _ _ => False) e s' → False) :
    PySem.W.WalkOS q loose XP YP r d [] (fun f vs => PySem.call f vs) := by
  intro w s_0 s₁ mg mb G Y fa o pm cd doc dV kV ho hd hcd hD hmg hg args vals as hpre hlay hrd hwl hlo
  obtain ⟨a, e1, e2⟩ := PySem.W.os_pre_some hpre
  obtain ⟨e3, hwi⟩ := Codec.encAll_of_decAll r.args args a e1
  subst e3
  have KX := hY w _ Y
  obtain ⟨fd, hb, hF⟩ := F w mg fa _ Y KX G.T.g hmg
  refine PySem.W.enter_call (codeAny_mono (spec_call (R := []) (cl := classAt s_0.heap) (d0 := r.ret.enc (Codec.app r.args r.f a)) KX G.T.g G.T.b G.T.builtins G.T.nolimit hg hwl (pl_encAll _ _) (layable_weight hlay) hr hF hb (by rw [encAll_len]; exact hlen)
    (fun H xs hO hS => hsp w H xs a hO hwi e2 hS) fun H e s' => hCX w H s₁ e s') fun r' s' hq => ?_)
  obtain ⟨u, as', rfl, h1, h2, h3, h4⟩ := hq
  exact ⟨.inl ⟨u, _, as', rfl, fun _ => rfl, h1, (OpenSpec.post_iff hwell hwi _ _).mpr rfl, fun z => Bool.noConfusion (show false = true from z)⟩, h2, h3, h4⟩
/-- the same where the promise hangs on the written part alone -/
theorem walk_specK {r : OpenSpec} {k : Nat} {q : Program} {loose : List Str} {XP : (Str → Option Value) → Heap → Prop} {YP : World → Heap → Prop} {d : DefRec} {K : Params → PySem.W.Frag} {CX : CXT} {ps : List Str} {sp : PySem.W.Frag → Sp}
    (hwell : r.wellSaid = true) (hdf : d.params.defaults = []) (hlen : r.args.length = ps.length) (hr : Room k callerA)
    (hY : ∀ (w : World) (h : Heap), YP w h → (K w.params).In h)
    (F : ∀ (w : World) (mg : Str → Option Value) (fa : Addr) (h : Heap), YP w h → (K w.params).In h → h.Ns mainGlobals mg → mg d.name = some (.ref fa) →
      ∃ fd : FuncData, (∀ (s : Shared) (us : List Value), us.length = ps.length → BindsTo s fd ⟨us, []⟩ (ps.zip us)) ∧
        ∀ base : Heap, (K w.params).In base → base.Ns mainGlobals mg → FnOk r.prog w (K w.params) mg base CX k fa fd ps (sp (K w.params)))
    (hsp : ∀ (K : PySem.W.Frag) (H : Hp) (xs : List V) (a : Codec.denoteAll r.args), OnlyF H → Codec.withinAll r.args a = true → Codec.app r.args r.asked a = true → DwAll K H xs (Codec.encAll r.args a) →
      sp K xs H (fun v H' => Dw K H' v (r.ret.enc (Codec.app r.args r.f a))) fun _ _ _ => False)
    (hCX : ∀ (H : Hp) (s : Shared) (e : Value) (s' : Shared), CX [] H s (fun _ _ _ => False) e s' → False) :
    PySem.W.WalkOS q loose XP YP r d [] (fun f vs => PySem.call f vs) :=
  walk_spec (K := K) (CX := fun _ => CX) (sp := fun w => sp (K w.params)) hwell hdf hlen hr hY F (fun w H xs a h1 h2 h3 h4 => hsp (K w.params) H xs a h1 h2 h3 h4) fun _ H s e s' => hCX H s e s'
end L2
end

section
set_option Elab.async false
namespace Hw
/-! ### Joined numbers -/
inductive Conn (R : Nat → Nat → Prop) : Nat → Nat → Prop
  | base {i j : Nat} : R i j → Conn R i j
  | refl (i : Nat) : Conn R i i
  | symm {i j : Nat} : Conn R i j → Conn R j i
  | trans {i j k : Nat} : Conn R i j → Conn R j k → Conn R i k
theorem Conn.mono {R S : Nat → Nat → Prop} (h : ∀ i j, R i j → Conn S i j) {i j : Nat} (c : Conn R i j) : Conn S i j := by
  induction c with
  | base e => exact h _ _ e
  | refl i => exact .refl i
  | symm _ ih => exact ih.symm
  | trans _ _ a b => exact a.trans b
theorem Conn.lt {R : Nat → Nat → Prop} {n : Nat} (h : ∀ i j, R i j → i < n ∧ j < n) {i j : Nat} (c : Conn R i j) : i < n ↔ j < n := by
  induction c with
  | base e => have := h _ _ e; omega
  | refl i => exact Iff.rfl
  | symm _ ih => exact ih.symm
  | trans _ _ a b => exact a.trans b
theorem Conn.empty {i j : Nat} {R : Nat → Nat → Prop} (h : ∀ i j, ¬ R i j) (c : Conn R i j) : i = j := by
  induction c with
  | base e => exact absurd e (h _ _)
  | refl i => rfl
  | symm _ ih => exact ih.symm
  | trans _ _ a b => exact a.trans b
/-- the number that stands at a place -/
def at0 (l : List Nat) (i : Nat) : Nat := l.getD i 0
def joinLeast (l : List Nat) (e : Nat × Nat) : List Nat :=
  l.map fun p => if p = max (at0 l e.1) (at0 l e.2) then min (at0 l e.1) (at0 l e.2) else p
def leastJoined (n : Nat) (ps : List (Nat × Nat)) : List Nat := ps.foldl joinLeast (List.range n)
def cnt (l : List Nat) (e : Nat) : Nat := (List.range e).countP fun i => at0 l i == i
structure Least (n : Nat) (R : Nat → Nat → Prop) (L : List Nat) : Prop where
  len : L.length = n
  le : ∀ i, i < n → at0 L i ≤ i
  idem : ∀ i, i < n → at0 L (at0 L i) = at0 L i
  conn : ∀ i j, i < n → j < n → (at0 L i = at0 L j ↔ Conn R i j)
def inL (ps : List (Nat × Nat)) (i j : Nat) : Prop := (i, j) ∈ ps
theorem at0_range {n i : Nat} (h : i < n) : at0 (List.range n) i = i := by
  unfold at0
  rw [List.getD_eq_getElem?_getD, List.getElem?_range h]
  rfl
theorem at0_map {l : List Nat} {f : Nat → Nat} {i : Nat} (h : i < l.length) : at0 (l.map f) i = f (at0 l i) := by
  unfold at0
  rw [List.getD_eq_getElem?_getD, List.getD_eq_getElem?_getD, List.getElem?_map, List.getElem?_eq_getElem h]
  rfl
theorem Least.start (n : Nat) : Least n (inL []) (List.range n) := by
  refine ⟨List.length_range, fun i h => ?_, fun i h => ?_, fun i j hi hj => ?_⟩
  · rw [at0_range h]; exact Nat.le_refl _
  · rw [at0_range h, at0_range h]
  · rw [at0_range hi, at0_range hj]
    constructor
    · intro e; rw [e]; exact .refl _
    · intro c; exact c.empty (fun _ _ h => nomatch h)
theorem at0_join {L : List Nat} {e : Nat × Nat} {i : Nat} (h : i < L.length) :
    at0 (joinLeast L e) i = if at0 L i = max (at0 L e.1) (at0 L e.2) then min (at0 L e.1) (at0 L e.2) else at0 L i := by
  unfold joinLeast
  rw [at0_map h]
theorem join_length (L : List Nat) (e : Nat × Nat) : (joinLeast L e).length = L.length := by
  unfold joinLeast; rw [List.length_map]
theorem Least.step {n : Nat} {ps : List (Nat × Nat)} {L : List Nat} {e : Nat × Nat} (G : Least n (inL ps) L)
    (hps : ∀ i j, inL ps i j → i < n ∧ j < n) (h1 : e.1 < n) (h2 : e.2 < n) : Least n (inL (ps ++ [e])) (joinLeast L e) := by
  have A : ∀ i, i < n → at0 (joinLeast L e) i = if at0 L i = max (at0 L e.1) (at0 L e.2) then min (at0 L e.1) (at0 L e.2) else at0 L i := fun i h => at0_join (by rw [G.len]; exact h)
  have le1 := G.le _ h1
  have le2 := G.le _ h2
  have id1 := G.idem _ h1
  have id2 := G.idem _ h2
  have old : ∀ i j, Conn (inL ps) i j → Conn (inL (ps ++ [e])) i j := fun i j c => c.mono fun i j h => .base (List.mem_append_left _ h)
  have new : Conn (inL (ps ++ [e])) e.1 e.2 := .base (List.mem_append_right _ (List.mem_singleton.mpr rfl))
  have hR : ∀ i j, inL (ps ++ [e]) i j → i < n ∧ j < n := fun i j h => by
    rcases List.mem_append.mp h with h | h
    · exact hps i j h
    · have := List.mem_singleton.mp h
      subst this
      exact ⟨h1, h2⟩
  generalize ha : at0 L e.1 = a at *
  generalize hb : at0 L e.2 = b at *
  have an : a < n := by omega
  have bn : b < n := by omega
  refine ⟨by rw [join_length, G.len], fun i h => ?_, fun i h => ?_, fun i j hi hj => ?_⟩
  · rw [A i h]
    have := G.le i h
    split <;> omega
  · have li := G.le i h
    have e1 : at0 (joinLeast L e) i < n := by
      rw [A i h]; split <;> omega
    rw [A _ e1, A i h]
    by_cases q : at0 L i = max a b
    · rw [if_pos q]
      have : at0 L (min a b) = min a b := by
        rcases Nat.le_total a b with z | z
        · rw [Nat.min_eq_left z]; exact id1
        · rw [Nat.min_eq_right z]; exact id2
      rw [this]
      split <;> omega
    · rw [if_neg q, G.idem i h, if_neg q]
  · have toA : ∀ i, i < n → at0 L i = a → Conn (inL (ps ++ [e])) i e.1 := fun i hi q => old _ _ ((G.conn i e.1 hi h1).mp (by rw [q, ha]))
    have toB : ∀ i, i < n → at0 L i = b → Conn (inL (ps ++ [e])) i e.1 := fun i hi q => (old _ _ ((G.conn i e.2 hi h2).mp (by rw [q, hb]))).trans new.symm
    have toK : ∀ i, i < n → at0 L i = min a b ∨ at0 L i = max a b → Conn (inL (ps ++ [e])) i e.1 := fun i hi q => by
      rcases Nat.le_total a b with z | z
      · rw [Nat.min_eq_left z, Nat.max_eq_right z] at q
        rcases q with q | q
        · exact toA i hi q
        · exact toB i hi q
      · rw [Nat.min_eq_right z, Nat.max_eq_left z] at q
        rcases q with q | q
        · exact toB i hi q
        · exact toA i hi q
    constructor
    · intro q
      rw [A i hi, A j hj] at q
      by_cases qi : at0 L i = max a b
      · by_cases qj : at0 L j = max a b
        · exact old _ _ ((G.conn i j hi hj).mp (by rw [qi, qj]))
        · rw [if_pos qi, if_neg qj] at q
          exact (toK i hi (.inr qi)).trans (toK j hj (.inl q.symm)).symm
      · by_cases qj : at0 L j = max a b
        · rw [if_neg qi, if_pos qj] at q
          exact (toK i hi (.inl q)).trans (toK j hj (.inr qj)).symm
        · rw [if_neg qi, if_neg qj] at q
          exact old _ _ ((G.conn i j hi hj).mp q)
    · intro c
      have main : ∀ {i j : Nat}, Conn (inL (ps ++ [e])) i j → i < n → at0 (joinLeast L e) i = at0 (joinLeast L e) j := by
        intro i j c
        induction c with
        | base h =>
          intro hi
          obtain ⟨_, hj⟩ := hR _ _ h
          rw [A _ hi, A _ hj]
          rcases List.mem_append.mp h with h | h
          · rw [(G.conn _ _ hi hj).mpr (.base h)]
          · have z := List.mem_singleton.mp h
            subst z
            dsimp only at ha hb
            rw [ha, hb]
            split <;> split <;> omega
        | refl i => intro _; rfl
        | symm c ih => intro hi; exact (ih ((Conn.lt hR c).mpr hi)).symm
        | trans c1 c2 a b => intro hi; exact (a hi).trans (b ((Conn.lt hR c1).mp hi))
      exact main c hi
theorem Least.fold {n : Nat} : ∀ (qs ps : List (Nat × Nat)) (L : List Nat), Least n (inL ps) L → (∀ e ∈ ps ++ qs, e.1 < n ∧ e.2 < n) → Least n (inL (ps ++ qs)) (qs.foldl joinLeast L)
  | [], ps, L, G, _ => by rw [List.append_nil]; exact G
  | e :: qs, ps, L, G, h => by
    have he := h e (List.mem_append_right _ (List.mem_cons_self ..))
    have := Least.fold qs (ps ++ [e]) (joinLeast L e) (G.step (fun i j q => h (i, j) (List.mem_append_left _ q)) he.1 he.2) (by rw [List.append_assoc]; exact h)
    rw [List.append_assoc] at this
    exact this
theorem least_joined {n : Nat} {ps : List (Nat × Nat)} (h : ∀ e ∈ ps, e.1 < n ∧ e.2 < n) : Least n (inL ps) (leastJoined n ps) :=
  Least.fold ps [] _ (Least.start n) h
theorem cnt_succ (l : List Nat) (k : Nat) : cnt l (k + 1) = cnt l k + (if at0 l k = k then 1 else 0) := by
  unfold cnt
  rw [List.range_succ, List.countP_append, List.countP_singleton]
  simp only [beq_iff_eq]
theorem cnt_join {n : Nat} {L : List Nat} (hL : L.length = n) (e : Nat × Nat) : ∀ k, k ≤ n → cnt L k ≤ cnt (joinLeast L e) k + (if max (at0 L e.1) (at0 L e.2) < k then 1 else 0)
  | 0, _ => by simp [cnt]
  | k + 1, h => by
    have ih := cnt_join hL e k (by omega)
    rw [cnt_succ, cnt_succ, at0_join (by omega)]
    have hm : min (at0 L e.1) (at0 L e.2) ≤ max (at0 L e.1) (at0 L e.2) := by omega
    generalize max (at0 L e.1) (at0 L e.2) = M at *
    generalize min (at0 L e.1) (at0 L e.2) = m at *
    generalize at0 L k = v at *
    by_cases q : v = k
    · subst q
      by_cases z : v = M
      · subst z
        simp only [if_true, Nat.lt_irrefl, if_false, Nat.lt_succ_self] at ih ⊢
        split <;> omega
      · simp only [if_neg z, if_true]
        by_cases y : M < v
        · simp only [if_pos y, if_pos (Nat.lt_succ_of_lt y)] at ih ⊢; omega
        · simp only [if_neg y] at ih; omega
    · simp only [if_neg q]
      by_cases y : M < k
      · simp only [if_pos y, if_pos (Nat.lt_succ_of_lt y)] at ih ⊢; omega
      · simp only [if_neg y] at ih; omega
theorem cnt_fold {n : Nat} : ∀ (qs : List (Nat × Nat)) (L : List Nat), L.length = n → cnt L n ≤ cnt (qs.foldl joinLeast L) n + qs.length
  | [], L, _ => by simp
  | e :: qs, L, h => by
    have h1 := cnt_join h e n (Nat.le_refl _)
    have h2 := cnt_fold qs (joinLeast L e) (by rw [join_length, h])
    rw [List.foldl_cons, List.length_cons]
    split at h1 <;> omega
theorem cnt_range : ∀ (n k : Nat), k ≤ n → cnt (List.range n) k = k
  | n, 0, _ => by simp [cnt]
  | n, k + 1, h => by rw [cnt_succ, cnt_range n k (by omega), at0_range (by omega), if_pos rfl]
theorem cnt_joined (n : Nat) (ps : List (Nat × Nat)) : n ≤ cnt (leastJoined n ps) n + ps.length := by
  have := cnt_fold (n := n) ps (List.range n) List.length_range
  rw [cnt_range n n (Nat.le_refl _)] at this
  exact this
theorem cnt_pos {n : Nat} {R : Nat → Nat → Prop} {L : List Nat} (G : Least n R L) (h : 0 < n) : 1 ≤ cnt L n := by
  have h0 : at0 L 0 = 0 := Nat.le_zero.mp (G.le 0 h)
  have : ∀ k, 1 ≤ k → 1 ≤ cnt L k := by
    intro k
    induction k with
    | zero => intro h; omega
    | succ k ih =>
      intro _
      rw [cnt_succ]
      by_cases z : k = 0
      · subst z; rw [if_pos h0]; omega
      · have := ih (by omega); omega
  exact this n h
end Hw
end
section
set_option Elab.async false
namespace Hw
open Maze
/-! ### How far -/
def mkd (m : List (Option Nat)) (t : Nat) : Option Nat := m.getD t none
theorem mkd_set {m : List (Option Nat)} {t u : Nat} {v : Option Nat} (h : t < m.length) : mkd (m.set t v) u = if u = t then v else mkd m u := by
  unfold mkd
  rw [List.getD_eq_getElem?_getD, List.getD_eq_getElem?_getD, List.getElem?_set]
  by_cases e : t = u
  · subst e
    simp only [if_true, if_pos h]
    rfl
  · rw [if_neg e, if_neg (fun q => e q.symm)]
theorem mkd_out {m : List (Option Nat)} {t : Nat} (h : m.length ≤ t) : mkd m t = none := by
  unfold mkd
  rw [List.getD_eq_getElem?_getD, List.getElem?_eq_none_iff.mpr h]
  rfl
/-- steps from a square to another -/
inductive Walk (D : Garden) (s : Nat) : Nat → Nat → Prop
  | nil : Walk D s s 0
  | snoc {u t n : Nat} : Walk D s u n → t ∈ D.outs u → Walk D s t (n + 1)
def IsDist (D : Garden) (s t n : Nat) : Prop := Walk D s t n ∧ ∀ k, k < n → ¬ Walk D s t k
theorem IsDist.uniq {D : Garden} {s t n k : Nat} (a : IsDist D s t n) (b : IsDist D s t k) : n = k := by
  rcases Nat.lt_trichotomy n k with h | h | h
  · exact absurd a.1 (b.2 n h)
  · exact h
  · exact absurd b.1 (a.2 k h)
theorem Walk.dist {D : Garden} {s t : Nat} : ∀ {n : Nat}, Walk D s t n → ∃ k, k ≤ n ∧ IsDist D s t k := by
  intro n
  induction n using Nat.strongRecOn with
  | _ n ih =>
    intro w
    by_cases h : ∃ k, k < n ∧ Walk D s t k
    · obtain ⟨k, hk, wk⟩ := h
      obtain ⟨j, hj, d⟩ := ih k hk wk
      exact ⟨j, by omega, d⟩
    · exact ⟨n, Nat.le_refl _, w, fun k hk wk => h ⟨k, hk, wk⟩⟩
theorem IsDist.zero {D : Garden} {s t : Nat} : IsDist D s t 0 ↔ t = s := by
  constructor
  · rintro ⟨w, _⟩
    cases w
    rfl
  · rintro rfl
    exact ⟨.nil, fun k h => absurd h (Nat.not_lt_zero _)⟩
theorem IsDist.pred {D : Garden} {s t n : Nat} (h : IsDist D s t (n + 1)) : ∃ u, IsDist D s u n ∧ t ∈ D.outs u := by
  obtain ⟨w, hm⟩ := h
  cases w with
  | snoc w e =>
    rename_i u
    refine ⟨u, ⟨w, fun k hk wk => ?_⟩, e⟩
    exact hm (k + 1) (by omega) (.snoc wk e)
theorem IsDist.down {D : Garden} {s t n : Nat} (h : IsDist D s t n) : ∀ k, k ≤ n → ∃ u, IsDist D s u k := by
  induction n generalizing t with
  | zero => intro k hk; exact ⟨t, by have : k = 0 := by omega
                                     subst this; exact h⟩
  | succ n ih =>
    intro k hk
    by_cases e : k = n + 1
    · subst e; exact ⟨t, h⟩
    · obtain ⟨u, hu, _⟩ := h.pred
      exact ih hu k (by omega)
/-! #### one wave -/
theorem wave_fold (D : Garden) (d : Nat) : ∀ (ts : List Nat) (fr : List Nat) (m : List (Option Nat)), (∀ t ∈ ts, t < m.length) →
    (ts.foldl (D.wave d) (fr, m)).2.length = m.length ∧
    (∀ t, mkd (ts.foldl (D.wave d) (fr, m)).2 t = if mkd m t = none ∧ t ∈ ts then some d else mkd m t) ∧
    (∀ t, t ∈ (ts.foldl (D.wave d) (fr, m)).1 ↔ t ∈ fr ∨ (mkd m t = none ∧ t ∈ ts)) ∧
    (ts.foldl (D.wave d) (fr, m)).2.countP Option.isNone + (ts.foldl (D.wave d) (fr, m)).1.length = m.countP Option.isNone + fr.length
  | [], fr, m, _ => by simp
  | t :: ts, fr, m, h => by
    have ht := h t (List.mem_cons_self ..)
    rw [List.foldl_cons]
    by_cases q : (mkd m t).isSome = true
    · have e : D.wave d (fr, m) t = (fr, m) := by
        unfold Garden.wave
        exact if_pos q
      rw [e]
      obtain ⟨a, b, c, z⟩ := wave_fold D d ts fr m (fun t h' => h t (List.mem_cons_of_mem _ h'))
      have ne : mkd m t ≠ none := fun e => by rw [e] at q; cases q
      refine ⟨a, fun u => ?_, fun u => ?_, z⟩
      · rw [b u]
        by_cases hu : u = t
        · subst hu; simp [ne]
        · simp [hu]
      · rw [c u]
        by_cases hu : u = t
        · subst hu; simp [ne]
        · simp [hu]
    · have e : D.wave d (fr, m) t = (t :: fr, m.set t (some d)) := by
        unfold Garden.wave
        exact if_neg q
      rw [e]
      have q' : mkd m t = none := by cases e : mkd m t with
        | none => rfl
        | some v => rw [e] at q; exact absurd rfl q
      obtain ⟨a, b, c, z⟩ := wave_fold D d ts (t :: fr) (m.set t (some d)) (fun t h' => by rw [List.length_set]; exact h t (List.mem_cons_of_mem _ h'))
      refine ⟨by rw [a, List.length_set], fun u => ?_, fun u => ?_, ?_⟩
      · rw [b u, mkd_set ht]
        by_cases hu : u = t
        · subst hu; simp [q']
        · simp [hu]
      · rw [c u, mkd_set ht]
        by_cases hu : u = t
        · subst hu; simp [q']
        · simp [hu]
      · rw [z]
        have hg : m[t] = none := by
          unfold mkd at q'
          rw [List.getD_eq_getElem?_getD, List.getElem?_eq_getElem ht] at q'
          exact q'
        rw [List.countP_set ht, hg]
        have : 0 < m.countP Option.isNone := List.countP_pos_iff.mpr ⟨none, by rw [← hg]; exact List.getElem_mem ht, rfl⟩
        simp only [Option.isNone_none, if_true, Option.isNone_some, Bool.false_eq_true, if_false, List.length_cons]
        omega
structure WaveInv (D : Garden) (s n d : Nat) (front : List Nat) (m : List (Option Nat)) : Prop where
  len : m.length = n
  front : ∀ t, t ∈ front ↔ mkd m t = some d
  sound : ∀ t k, mkd m t = some k → k ≤ d ∧ IsDist D s t k
  full : ∀ t k, t < n → k ≤ d → IsDist D s t k → mkd m t = some k
theorem WaveInv.done {D : Garden} {s n d : Nat} {m : List (Option Nat)} (hn : ∀ u t, u < n → t ∈ D.outs u → t < n) (hs : s < n) (I : WaveInv D s n d [] m) (t k : Nat) (ht : t < n) : mkd m t = some k ↔ IsDist D s t k := by
  constructor
  · exact fun h => (I.sound t k h).2
  · intro h
    by_cases e : k ≤ d
    · exact I.full t k ht e h
    · exfalso
      obtain ⟨u, hu⟩ := h.down d (by omega)
      have lt : u < n := by
        have : ∀ {u k}, Walk D s u k → u < n := by
          intro u k w
          induction w with
          | nil => exact hs
          | snoc _ e ih => exact hn _ _ ih e
        exact this hu.1
      have := (I.front u).mpr (I.full u d lt (Nat.le_refl _) hu)
      cases this
theorem Walk.lt {D : Garden} {s n : Nat} (hn : ∀ u t, u < n → t ∈ D.outs u → t < n) (hs : s < n) {u k : Nat} (w : Walk D s u k) : u < n := by
  induction w with
  | nil => exact hs
  | snoc _ e ih => exact hn _ _ ih e
theorem WaveInv.next {D : Garden} {s n d : Nat} {front : List Nat} {m : List (Option Nat)} (hn : ∀ u t, u < n → t ∈ D.outs u → t < n) (hs : s < n) (I : WaveInv D s n d front m) :
    WaveInv D s n (d + 1) ((front.flatMap D.outs).foldl (D.wave (d + 1)) ([], m)).1 ((front.flatMap D.outs).foldl (D.wave (d + 1)) ([], m)).2 := by
  have hf : ∀ u, u ∈ front → u < n := fun u hu => by
    have := (I.front u).mp hu
    rcases Nat.lt_or_ge u n with h | h
    · exact h
    · rw [mkd_out (by rw [I.len]; exact h)] at this; cases this
  obtain ⟨a, b, c, _⟩ := wave_fold D (d + 1) (front.flatMap D.outs) [] m (fun t ht => by
    obtain ⟨u, hu, e⟩ := List.mem_flatMap.mp ht
    rw [I.len]
    exact hn u t (hf u hu) e)
  have key : ∀ t, mkd m t = none → t ∈ front.flatMap D.outs → IsDist D s t (d + 1) := fun t h0 ht => by
    obtain ⟨u, hu, e⟩ := List.mem_flatMap.mp ht
    have du := (I.sound u d ((I.front u).mp hu)).2
    refine ⟨.snoc du.1 e, fun k hk wk => ?_⟩
    obtain ⟨j, hj, dj⟩ := wk.dist
    have := I.full t j (wk.lt hn hs) (by omega) dj
    rw [h0] at this
    cases this
  refine ⟨by rw [a]; exact I.len, fun t => ?_, fun t k h => ?_, fun t k ht hk h => ?_⟩
  · rw [c t, b t]
    constructor
    · intro h
      rcases h with h | h
      · cases h
      · rw [if_pos h]
    · intro h
      by_cases q : mkd m t = none ∧ t ∈ front.flatMap D.outs
      · exact .inr q
      · rw [if_neg q] at h
        have := (I.sound t _ h).1
        omega
  · rw [b t] at h
    by_cases q : mkd m t = none ∧ t ∈ front.flatMap D.outs
    · rw [if_pos q] at h
      cases h
      exact ⟨Nat.le_refl _, key t q.1 q.2⟩
    · rw [if_neg q] at h
      have := I.sound t k h
      exact ⟨by omega, this.2⟩
  · rw [b t]
    by_cases e : k ≤ d
    · have := I.full t k ht e h
      rw [if_neg (by rw [this]; simp), this]
    · have e' : k = d + 1 := by omega
      subst e'
      obtain ⟨u, hu, e2⟩ := h.pred
      have lu := hu.1.lt hn hs
      have mu := I.full u d lu (Nat.le_refl _) hu
      have ht' : t ∈ front.flatMap D.outs := List.mem_flatMap.mpr ⟨u, (I.front u).mpr mu, e2⟩
      cases e3 : mkd m t with
      | none => rw [if_pos ⟨rfl, ht'⟩]
      | some j =>
        exfalso
        have := I.sound t j e3
        have := this.2.uniq h
        omega
theorem waves_done {D : Garden} {s n : Nat} (hn : ∀ u t, u < n → t ∈ D.outs u → t < n) (hs : s < n) : ∀ (f d : Nat) (front : List Nat) (m : List (Option Nat)), WaveInv D s n d front m → m.countP Option.isNone ≤ f →
    (D.waves f d front m).length = n ∧ ∀ t k, t < n → (mkd (D.waves f d front m) t = some k ↔ IsDist D s t k)
  | 0, d, front, m, I, h => by
    refine ⟨I.len, fun t k ht => ⟨fun e => (I.sound t k e).2, fun e => ?_⟩⟩
    have h0 : m.countP Option.isNone = 0 := by omega
    cases q : mkd m t with
    | none =>
      exfalso
      have lt : t < m.length := by rw [I.len]; exact ht
      have hg : m[t] = none := by
        unfold mkd at q
        rw [List.getD_eq_getElem?_getD, List.getElem?_eq_getElem lt] at q
        exact q
      have : 0 < m.countP Option.isNone := List.countP_pos_iff.mpr ⟨none, by rw [← hg]; exact List.getElem_mem lt, rfl⟩
      omega
    | some j =>
      have q2 : mkd (D.waves 0 d front m) t = some j := q
      rw [q2]
      rw [(I.sound t j q).2.uniq e]
  | f + 1, d, front, m, I, h => by
    by_cases e : front = []
    · have e2 : D.waves (f + 1) d front m = m := by
        unfold Garden.waves
        exact if_pos e
      rw [e2]
      subst e
      exact ⟨I.len, fun t k ht => I.done hn hs t k ht⟩
    · have e2 : D.waves (f + 1) d front m = D.waves f (d + 1) ((front.flatMap D.outs).foldl (D.wave (d + 1)) ([], m)).1 ((front.flatMap D.outs).foldl (D.wave (d + 1)) ([], m)).2 := by
        conv => lhs; unfold Garden.waves
        exact if_neg e
      rw [e2]
      have I2 := I.next hn hs
      have hf : ∀ u, u ∈ front → u < n := fun u hu => by
        have := (I.front u).mp hu
        rcases Nat.lt_or_ge u n with h | h
        · exact h
        · rw [mkd_out (by rw [I.len]; exact h)] at this; cases this
      obtain ⟨_, _, _, z⟩ := wave_fold D (d + 1) (front.flatMap D.outs) [] m (fun t ht => by
        obtain ⟨u, hu, e⟩ := List.mem_flatMap.mp ht
        rw [I.len]
        exact hn u t (hf u hu) e)
      generalize hx : (front.flatMap D.outs).foldl (D.wave (d + 1)) ([], m) = x at *
      by_cases e3 : x.1 = []
      · rw [e3] at I2 ⊢
        have e4 : D.waves f (d + 1) [] x.2 = x.2 := by
          cases f with
          | zero => rfl
          | succ f => unfold Garden.waves; exact if_pos rfl
        rw [e4]
        exact ⟨I2.len, fun t k ht => I2.done hn hs t k ht⟩
      · have : 0 < x.1.length := List.length_pos_iff.mpr e3
        exact waves_done hn hs f (d + 1) x.1 x.2 I2 (by simp only [List.length_nil] at z; omega)
/-- how far, by the specification's waves -/
theorem fars_spec {D : Garden} {s : Nat} (hn : ∀ u t, u < D.squares → t ∈ D.outs u → t < D.squares) (hs : s < D.squares) :
    (D.fars s).length = D.squares ∧ ∀ t k, t < D.squares → (mkd (D.fars s) t = some k ↔ IsDist D s t k) := by
  unfold Garden.fars
  have hr : ∀ t, mkd (List.replicate D.squares (none : Option Nat)) t = none := fun t => by
    unfold mkd
    rw [List.getD_eq_getElem?_getD, List.getElem?_replicate]
    split <;> rfl
  have hl : s < (List.replicate D.squares (none : Option Nat)).length := by rw [List.length_replicate]; exact hs
  refine waves_done hn hs _ 0 [s] _ ⟨by rw [List.length_set, List.length_replicate], fun t => ?_, fun t k h => ?_, fun t k ht hk h => ?_⟩ ?_
  · rw [mkd_set hl, hr]
    by_cases e : t = s
    · simp [e]
    · simp [e]
  · rw [mkd_set hl, hr] at h
    by_cases e : t = s
    · rw [if_pos e] at h
      cases h
      exact ⟨Nat.le_refl _, IsDist.zero.mpr e⟩
    · rw [if_neg e] at h; cases h
  · have : k = 0 := by omega
    subst this
    rw [mkd_set hl, if_pos (IsDist.zero.mp h)]
  · refine Nat.le_trans List.countP_le_length ?_
    rw [List.length_set, List.length_replicate]
    exact Nat.le_refl _
end Hw
end
section
set_option Elab.async false
namespace Hw
open Maze
/-! ### Rooms -/
theorem Walk.trans {D : Garden} {s u : Nat} {n : Nat} (w : Walk D s u n) {t k : Nat} (v : Walk D u t k) : ∃ j, Walk D s t j := by
  induction v with
  | nil => exact ⟨n, w⟩
  | snoc _ e ih => obtain ⟨j, w'⟩ := ih; exact ⟨j + 1, .snoc w' e⟩
theorem walk_conn {D : Garden} {R : Nat → Nat → Prop} {n : Nat} (hn : ∀ u t, u < n → t ∈ D.outs u → t < n)
    (hR : ∀ u t, u < n → t ∈ D.outs u → Conn R u t) {s : Nat} (hs : s < n) {t k : Nat} (w : Walk D s t k) : Conn R s t := by
  induction w with
  | nil => exact .refl _
  | snoc w e ih => exact ih.trans (hR _ _ (w.lt hn hs) e)
theorem conn_walk {D : Garden} {R : Nat → Nat → Prop}
    (hR : ∀ i j, R i j → j ∈ D.outs i ∧ i ∈ D.outs j) {s t : Nat} (c : Conn R s t) : (∃ k, Walk D s t k) ∧ ∃ k, Walk D t s k := by
  induction c with
  | base e => exact ⟨⟨1, .snoc .nil (hR _ _ e).1⟩, ⟨1, .snoc .nil (hR _ _ e).2⟩⟩
  | refl i => exact ⟨⟨0, .nil⟩, ⟨0, .nil⟩⟩
  | symm _ ih => exact ⟨ih.2, ih.1⟩
  | trans _ _ a b =>
    obtain ⟨⟨k1, w1⟩, ⟨k2, w2⟩⟩ := a
    obtain ⟨⟨k3, w3⟩, ⟨k4, w4⟩⟩ := b
    exact ⟨w1.trans w3, w4.trans w2⟩
theorem fars_isSome {D : Garden} {s t : Nat} (hn : ∀ u t, u < D.squares → t ∈ D.outs u → t < D.squares) (hs : s < D.squares) (ht : t < D.squares) :
    (mkd (D.fars s) t).isSome = true ↔ ∃ k, Walk D s t k := by
  obtain ⟨_, h⟩ := fars_spec hn hs
  constructor
  · intro e
    cases q : mkd (D.fars s) t with
    | none => rw [q] at e; cases e
    | some k => exact ⟨k, ((h t k ht).mp q).1⟩
  · rintro ⟨k, w⟩
    obtain ⟨j, _, d⟩ := w.dist
    rw [(h t j ht).mpr d]
    rfl
theorem mkd_zipmap {m f : List (Option Nat)} {c t : Nat} (hl : m.length = f.length) :
    mkd ((m.zip f).map fun (y : Option Nat × Option Nat) => if y.2.isSome = true then some c else y.1) t = if (mkd f t).isSome = true then some c else mkd m t := by
  rcases Nat.lt_or_ge t m.length with h | h
  · have h2 : t < f.length := by omega
    unfold mkd
    rw [List.getD_eq_getElem?_getD, List.getD_eq_getElem?_getD, List.getD_eq_getElem?_getD, List.getElem?_map, List.getElem?_eq_getElem (by rw [List.length_zip]; omega), List.getElem?_eq_getElem h, List.getElem?_eq_getElem h2, List.getElem_zip]
    rfl
  · rw [mkd_out (m := m) h, mkd_out (m := f) (by omega), mkd_out (by rw [List.length_map, List.length_zip]; omega)]
    rfl
structure RoomInv (n : Nat) (L : List Nat) (k : Nat) (x : List (Option Nat) × Nat) : Prop where
  len : x.1.length = n
  cnt : x.2 = cnt L k
  at_ : ∀ t, t < n → mkd x.1 t = if at0 L t < k then some (Hw.cnt L (at0 L t)) else none
theorem room_table {D : Garden} {R : Nat → Nat → Prop} {L : List Nat} (G : Least D.squares R L)
    (hn : ∀ u t, u < D.squares → t ∈ D.outs u → t < D.squares)
    (hc : ∀ s t, s < D.squares → t < D.squares → ((∃ k, Walk D s t k) ↔ Conn R s t)) :
    ∀ k, k ≤ D.squares → RoomInv D.squares L k ((List.range k).foldl D.markRoom (List.replicate D.squares none, 0))
  | 0, _ => by
    refine ⟨List.length_replicate, rfl, fun t ht => ?_⟩
    rw [if_neg (Nat.not_lt_zero _)]
    show mkd (List.replicate D.squares none) t = none
    unfold mkd
    rw [List.getD_eq_getElem?_getD, List.getElem?_replicate]
    split <;> rfl
  | k + 1, hk => by
    have I := room_table G hn hc k (by omega)
    rw [List.range_succ, List.foldl_append, List.foldl_cons, List.foldl_nil]
    generalize (List.range k).foldl D.markRoom (List.replicate D.squares none, 0) = x at *
    have hk' : k < D.squares := by omega
    have lek := G.le k hk'
    have ak := I.at_ k hk'
    by_cases q : at0 L k = k
    · rw [q, if_neg (Nat.lt_irrefl _)] at ak
      have e : D.markRoom x k = ((x.1.zip (D.fars k)).map fun (y : Option Nat × Option Nat) => if y.2.isSome = true then some x.2 else y.1, x.2 + 1) := by
        unfold Garden.markRoom
        exact if_neg (by
          show ¬ (mkd x.1 k).isSome = true
          rw [ak]; intro z; cases z)
      have hl := (fars_spec hn hk').1
      rw [e]
      refine ⟨by rw [List.length_map, List.length_zip, I.len, hl]; omega, by show x.2 + 1 = _; rw [cnt_succ, if_pos q, I.cnt], fun t ht => ?_⟩
      show mkd ((x.1.zip (D.fars k)).map fun (y : Option Nat × Option Nat) => if y.2.isSome = true then some x.2 else y.1) t = _
      rw [mkd_zipmap (by rw [I.len, hl])]
      have key : (mkd (D.fars k) t).isSome = true ↔ at0 L t = k := by
        rw [fars_isSome hn hk' ht, hc k t hk' ht, ← G.conn k t hk' ht, q]
        exact ⟨fun z => z.symm, fun z => z.symm⟩
      by_cases z : at0 L t = k
      · rw [if_pos (key.mpr z), z, if_pos (by omega), I.cnt]
      · rw [if_neg (fun y => z (key.mp y)), I.at_ t ht]
        by_cases y : at0 L t < k
        · rw [if_pos y, if_pos (by omega)]
        · rw [if_neg y, if_neg (by omega)]
    · rw [if_pos (by omega)] at ak
      have e : D.markRoom x k = x := by
        unfold Garden.markRoom
        exact if_pos (by
          show (mkd x.1 k).isSome = true
          rw [ak]; rfl)
      rw [e]
      refine ⟨I.len, by rw [cnt_succ, if_neg q, I.cnt]; rfl, fun t ht => ?_⟩
      rw [I.at_ t ht]
      have : at0 L t ≠ k := fun z => q (by have := G.idem t ht; rw [z] at this; exact this)
      by_cases y : at0 L t < k
      · rw [if_pos y, if_pos (by omega)]
      · rw [if_neg y, if_neg (by omega)]
theorem rooms_cnt {D : Garden} {R : Nat → Nat → Prop} {L : List Nat} (G : Least D.squares R L)
    (hn : ∀ u t, u < D.squares → t ∈ D.outs u → t < D.squares)
    (hc : ∀ s t, s < D.squares → t < D.squares → ((∃ k, Walk D s t k) ↔ Conn R s t)) :
    D.rooms = cnt L D.squares ∧ ∀ s, s < D.squares → D.roomOf s = cnt L (at0 L s) := by
  have I := room_table G hn hc D.squares (Nat.le_refl _)
  refine ⟨I.cnt, fun s hs => ?_⟩
  have := I.at_ s hs
  rw [if_pos (Nat.lt_of_le_of_lt (G.le s hs) hs)] at this
  unfold Garden.roomOf
  show (mkd D.roomTable.1 s).getD 0 = _
  unfold Garden.roomTable
  rw [this]
  rfl
/-! ### Names that hang together -/
def nameAt (l : List (Nat × Nat)) (c : Nat) : Nat := ((l.find? fun (x : Nat × Nat) => x.1 == c).map fun (x : Nat × Nat) => x.2).getD c
theorem joinNames_eq (l : List (Nat × Nat)) (e : Nat × Nat) : joinNames l e = l.map fun (x : Nat × Nat) => if x.2 = nameAt l e.2 then (x.1, nameAt l e.1) else x := rfl
theorem nameAt_of {keys : List Nat} (nd : keys.Nodup) : ∀ {N : List Nat} {i : Nat}, N.length = keys.length → i < keys.length → nameAt (keys.zip N) (at0 keys i) = at0 N i := by
  induction keys with
  | nil => intro N i _ h; exact absurd h (Nat.not_lt_zero _)
  | cons c keys ih =>
    intro N i hl hi
    match N, hl with
    | [], hl => cases hl
    | v :: N, hl =>
      match i, hi with
      | 0, _ => simp [nameAt, at0]
      | i + 1, hi =>
        have hi' : i < keys.length := by simpa using hi
        have ne : c ≠ at0 keys i := fun q => (List.nodup_cons.mp nd).1 (by
          rw [q]
          unfold at0
          rw [List.getD_eq_getElem?_getD, List.getElem?_eq_getElem hi']
          exact List.getElem_mem hi')
        have e1 : at0 (c :: keys) (i + 1) = at0 keys i := by simp [at0]
        have e2 : at0 (v :: N) (i + 1) = at0 N i := by simp [at0]
        rw [e1, e2, ← ih (List.nodup_cons.mp nd).2 (N := N) (by simpa using hl) hi']
        have hb : (c == at0 keys i) = false := beq_eq_false_iff_ne.mpr ne
        cases hf : List.find? (fun (x : Nat × Nat) => x.1 == at0 keys i) (keys.zip N) with
        | none => simp [nameAt, hb, hf]
        | some y => simp [nameAt, hb, hf]
/-- names by their places: the first's name is taken -/
def joinAt (N : List Nat) (e : Nat × Nat) : List Nat := N.map fun v => if v = at0 N e.2 then at0 N e.1 else v
theorem zip_joined {keys : List Nat} (nd : keys.Nodup) {N : List Nat} (hl : N.length = keys.length) {e : Nat × Nat} (h1 : e.1 < keys.length) (h2 : e.2 < keys.length) :
    joinNames (keys.zip N) (at0 keys e.1, at0 keys e.2) = keys.zip (joinAt N e) := by
  rw [joinNames_eq, nameAt_of nd hl h1, nameAt_of nd hl h2]
  unfold joinAt
  generalize at0 N e.1 = a
  generalize at0 N e.2 = b
  clear nd h1 h2
  induction keys generalizing N with
  | nil => simp
  | cons c keys ih =>
    match N, hl with
    | [], hl => cases hl
    | v :: N, hl =>
      rw [List.zip_cons_cons, List.map_cons, List.map_cons, List.zip_cons_cons, ih (by simpa using hl)]
      congr 1
      by_cases q : v = b
      · simp [q]
      · simp [q]
theorem zip_fold {keys : List Nat} (nd : keys.Nodup) : ∀ (ps : List (Nat × Nat)) (N : List Nat), N.length = keys.length → (∀ e ∈ ps, e.1 < keys.length ∧ e.2 < keys.length) →
    (ps.map fun e => (at0 keys e.1, at0 keys e.2)).foldl joinNames (keys.zip N) = keys.zip (ps.foldl joinAt N)
  | [], N, _, _ => rfl
  | e :: ps, N, hl, h => by
    have he := h e (List.mem_cons_self ..)
    rw [List.map_cons, List.foldl_cons, List.foldl_cons, zip_joined nd hl he.1 he.2]
    exact zip_fold nd ps (joinAt N e) (by unfold joinAt; rw [List.length_map]; exact hl) fun e h' => h e (List.mem_cons_of_mem _ h')
structure Named (n : Nat) (R : Nat → Nat → Prop) (N : List Nat) : Prop where
  len : N.length = n
  conn : ∀ i j, i < n → j < n → (at0 N i = at0 N j ↔ Conn R i j)
theorem at0_joinAt {N : List Nat} {e : Nat × Nat} {i : Nat} (h : i < N.length) : at0 (joinAt N e) i = if at0 N i = at0 N e.2 then at0 N e.1 else at0 N i := by
  unfold joinAt
  rw [at0_map h]
theorem Named.step {n : Nat} {ps : List (Nat × Nat)} {N : List Nat} {e : Nat × Nat} (G : Named n (inL ps) N)
    (hps : ∀ i j, inL ps i j → i < n ∧ j < n) (h1 : e.1 < n) (h2 : e.2 < n) : Named n (inL (ps ++ [e])) (joinAt N e) := by
  have A : ∀ i, i < n → at0 (joinAt N e) i = if at0 N i = at0 N e.2 then at0 N e.1 else at0 N i := fun i h => at0_joinAt (by rw [G.len]; exact h)
  have old : ∀ i j, Conn (inL ps) i j → Conn (inL (ps ++ [e])) i j := fun i j c => c.mono fun i j h => .base (List.mem_append_left _ h)
  have new : Conn (inL (ps ++ [e])) e.1 e.2 := .base (List.mem_append_right _ (List.mem_singleton.mpr rfl))
  have hR : ∀ i j, inL (ps ++ [e]) i j → i < n ∧ j < n := fun i j h => by
    rcases List.mem_append.mp h with h | h
    · exact hps i j h
    · have := List.mem_singleton.mp h
      subst this
      exact ⟨h1, h2⟩
  have toA : ∀ i, i < n → at0 N i = at0 N e.1 → Conn (inL (ps ++ [e])) i e.1 := fun i hi q => old _ _ ((G.conn i e.1 hi h1).mp q)
  have toB : ∀ i, i < n → at0 N i = at0 N e.2 → Conn (inL (ps ++ [e])) i e.1 := fun i hi q => (old _ _ ((G.conn i e.2 hi h2).mp q)).trans new.symm
  refine ⟨by unfold joinAt; rw [List.length_map, G.len], fun i j hi hj => ?_⟩
  constructor
  · intro q
    rw [A i hi, A j hj] at q
    by_cases qi : at0 N i = at0 N e.2
    · by_cases qj : at0 N j = at0 N e.2
      · exact old _ _ ((G.conn i j hi hj).mp (by rw [qi, qj]))
      · rw [if_pos qi, if_neg qj] at q
        exact (toB i hi qi).trans (toA j hj q.symm).symm
    · by_cases qj : at0 N j = at0 N e.2
      · rw [if_neg qi, if_pos qj] at q
        exact (toA i hi q).trans (toB j hj qj).symm
      · rw [if_neg qi, if_neg qj] at q
        exact old _ _ ((G.conn i j hi hj).mp q)
  · intro c
    have main : ∀ {i j : Nat}, Conn (inL (ps ++ [e])) i j → i < n → at0 (joinAt N e) i = at0 (joinAt N e) j := by
      intro i j c
      induction c with
      | base h =>
        intro hi
        obtain ⟨_, hj⟩ := hR _ _ h
        rw [A _ hi, A _ hj]
        rcases List.mem_append.mp h with h | h
        · rw [(G.conn _ _ hi hj).mpr (.base h)]
        · have z := List.mem_singleton.mp h
          subst z
          dsimp only
          rw [if_pos rfl]
          split <;> rfl
      | refl i => intro _; rfl
      | symm c ih => intro hi; exact (ih ((Conn.lt hR c).mpr hi)).symm
      | trans c1 c2 a b => intro hi; exact (a hi).trans (b ((Conn.lt hR c1).mp hi))
    exact main c hi
theorem Named.fold {n : Nat} : ∀ (qs ps : List (Nat × Nat)) (N : List Nat), Named n (inL ps) N → (∀ e ∈ ps ++ qs, e.1 < n ∧ e.2 < n) → Named n (inL (ps ++ qs)) (qs.foldl joinAt N)
  | [], ps, L, G, _ => by rw [List.append_nil]; exact G
  | e :: qs, ps, L, G, h => by
    have he := h e (List.mem_append_right _ (List.mem_cons_self ..))
    have := Named.fold qs (ps ++ [e]) (joinAt L e) (G.step (fun i j q => h (i, j) (List.mem_append_left _ q)) he.1 he.2) (by rw [List.append_assoc]; exact h)
    rw [List.append_assoc] at this
    exact this
theorem at0_mem {l : List Nat} {v : Nat} : v ∈ l ↔ ∃ i, i < l.length ∧ at0 l i = v := by
  constructor
  · intro h
    obtain ⟨i, hi, e⟩ := List.mem_iff_getElem.mp h
    exact ⟨i, hi, by unfold at0; rw [List.getD_eq_getElem?_getD, List.getElem?_eq_getElem hi]; exact e⟩
  · rintro ⟨i, hi, e⟩
    refine List.mem_iff_getElem.mpr ⟨i, hi, ?_⟩
    unfold at0 at e
    rw [List.getD_eq_getElem?_getD, List.getElem?_eq_getElem hi] at e
    exact e
theorem take_succ_at {l : List Nat} {k : Nat} (h : k < l.length) : l.take (k + 1) = l.take k ++ [at0 l k] := by
  rw [List.take_add_one, List.getElem?_eq_getElem h]
  unfold at0
  rw [List.getD_eq_getElem?_getD, List.getElem?_eq_getElem h]
  rfl
theorem dups_cnt {n : Nat} {R : Nat → Nat → Prop} {L N : List Nat} (G : Least n R L) (M : Named n R N) : ∀ k, k ≤ n → (N.take k).eraseDups.length = cnt L k
  | 0, _ => by simp [cnt]
  | k + 1, h => by
    have ih := dups_cnt G M k (by omega)
    have hk : k < N.length := by rw [M.len]; omega
    rw [take_succ_at hk, List.eraseDups_append, List.length_append, ih, cnt_succ]
    congr 1
    have key : at0 N k ∈ N.take k ↔ ¬ at0 L k = k := by
      rw [at0_mem]
      constructor
      · rintro ⟨i, hi, e⟩ q
        rw [List.length_take] at hi
        have e2 : at0 (N.take k) i = at0 N i := by
          unfold at0
          rw [List.getD_eq_getElem?_getD, List.getD_eq_getElem?_getD, List.getElem?_take, if_pos (by omega)]
        rw [e2] at e
        have c := (M.conn i k (by omega) (by omega)).mp e
        have := (G.conn i k (by omega) (by omega)).mpr c
        have := G.le i (by omega)
        omega
      · intro q
        have lk := G.le k (by omega)
        have hlt : at0 L k < k := by omega
        refine ⟨at0 L k, by rw [List.length_take]; omega, ?_⟩
        have e2 : at0 (N.take k) (at0 L k) = at0 N (at0 L k) := by
          generalize at0 L k = r at *
          unfold at0
          rw [List.getD_eq_getElem?_getD, List.getD_eq_getElem?_getD (l := N), List.getElem?_take, if_pos hlt]
        rw [e2]
        exact (M.conn _ _ (by omega) (by omega)).mpr ((G.conn _ _ (by omega) (by omega)).mp (G.idem k (by omega)))
    by_cases q : at0 L k = k
    · rw [if_pos q]
      have : ¬ at0 N k ∈ N.take k := fun z => key.mp z q
      simp [List.removeAll, this, List.eraseDups_cons]
    · rw [if_neg q]
      have := key.mpr q
      simp [List.removeAll, this]
theorem islands_cnt {n : Nat} {keys : List Nat} (nd : keys.Nodup) (hn : keys.length = n) {ps : List (Nat × Nat)} (h : ∀ e ∈ ps, e.1 < n ∧ e.2 < n) :
    (((ps.map fun e => (at0 keys e.1, at0 keys e.2)).foldl joinNames (keys.map fun (c : Nat) => (c, c))).map fun (x : Nat × Nat) => x.2).eraseDups.length = cnt (leastJoined n ps) n := by
  have e1 : (keys.map fun (c : Nat) => (c, c)) = keys.zip keys := by
    clear nd hn h
    induction keys with
    | nil => rfl
    | cons c keys ih => rw [List.map_cons, ih, List.zip_cons_cons]
  have M0 : Named n (inL []) keys := ⟨hn, fun i j hi hj => by
    constructor
    · intro q
      have : i = j := by
        unfold at0 at q
        rw [List.getD_eq_getElem?_getD, List.getD_eq_getElem?_getD, List.getElem?_eq_getElem (by omega), List.getElem?_eq_getElem (by omega)] at q
        exact (List.getElem_inj nd).mp q
      rw [this]; exact .refl _
    · intro c; rw [c.empty (fun _ _ h => nomatch h)]⟩
  have M := Named.fold ps [] keys M0 h
  rw [List.nil_append] at M
  rw [e1, zip_fold nd ps keys rfl (by rw [hn]; exact h)]
  have e2 : (keys.zip (ps.foldl joinAt keys)).map (fun (x : Nat × Nat) => x.2) = ps.foldl joinAt keys := List.map_snd_zip (by rw [M.len, hn]; exact Nat.le_refl _)
  rw [e2, ← dups_cnt (least_joined h) M n (Nat.le_refl _), List.take_of_length_le (by rw [M.len]; exact Nat.le_refl _)]
end Hw
end
section
set_option Elab.async false
namespace Hw
open Maze
/-! ### Rows and columns -/
theorem rc_div {b y x : Nat} (h : x < b) : (y * b + x) / b = y := by
  rw [Nat.mul_comm, Nat.mul_add_div (by omega), Nat.div_eq_of_lt h]; rfl
theorem rc_mod {b y x : Nat} (h : x < b) : (y * b + x) % b = x := by
  rw [Nat.mul_comm, Nat.mul_add_mod, Nat.mod_eq_of_lt h]
theorem rc_lt {a b y x : Nat} (hy : y < a) (hx : x < b) : y * b + x < a * b := by
  have : (y + 1) * b ≤ a * b := Nat.mul_le_mul_right b hy
  rw [Nat.add_mul, Nat.one_mul] at this
  omega
theorem rc_inj {b y x y' x' : Nat} (hx : x < b) (hx' : x' < b) (e : y * b + x = y' * b + x') : y = y' ∧ x = x' := by
  have h1 := rc_div (y := y) hx
  have h2 := rc_mod (y := y) hx
  rw [e] at h1 h2
  rw [rc_div hx'] at h1
  rw [rc_mod hx'] at h2
  exact ⟨h1.symm, h2.symm⟩
theorem fmap_congr {α : Type} {f g : Nat → Option α} : ∀ {l : List Nat}, (∀ x ∈ l, f x = g x) → l.filterMap f = l.filterMap g
  | [], _ => rfl
  | c :: l, h => by
    rw [List.filterMap_cons, List.filterMap_cons, h c (List.mem_cons_self ..), fmap_congr (l := l) fun x hx => h x (List.mem_cons_of_mem _ hx)]
theorem goes_if {q P : Prop} [Decidable q] {a t : Nat} : ((if q then some a else none) = some t ∧ P) ↔ (q ∧ t = a ∧ P) := by
  by_cases h : q
  · rw [if_pos h]
    exact ⟨fun z => ⟨h, (Option.some.inj z.1).symm, z.2⟩, fun z => ⟨by rw [z.2.1], z.2.2⟩⟩
  · rw [if_neg h]
    exact ⟨fun z => absurd z.1 (by intro y; cases y), fun z => absurd z.1 h⟩
theorem flat_filterMap {α : Type} (b : Nat) (g : Nat → Nat → Option α) : ∀ a : Nat, ((List.range a).flatMap fun y => (List.range b).filterMap (g y)) = (List.range (a * b)).filterMap fun p => g (p / b) (p % b)
  | 0 => by simp
  | a + 1 => by
    rw [List.range_succ, List.flatMap_append, flat_filterMap b g a, Nat.add_mul, Nat.one_mul, List.range_add, List.filterMap_append, List.flatMap_cons, List.flatMap_nil, List.append_nil, List.filterMap_map]
    congr 1
    refine fmap_congr fun x hx => ?_
    have := List.mem_range.mp hx
    show g a x = g ((a * b + x) / b) ((a * b + x) % b)
    rw [rc_div this, rc_mod this]
theorem flat_map {α : Type} (b : Nat) (g : Nat → Nat → α) (a : Nat) : ((List.range a).flatMap fun y => (List.range b).map (g y)) = (List.range (a * b)).map fun p => g (p / b) (p % b) := by
  have := flat_filterMap b (fun y x => some (g y x)) a
  have e : ∀ (l : List Nat) (f : Nat → α), (l.filterMap fun x => some (f x)) = l.map f := fun l f => by
    induction l with
    | nil => rfl
    | cons c l ih => rw [List.filterMap_cons, ih]; rfl
  simp only [e] at this
  exact this
theorem filter_map_if {α : Type} {p : Nat → Bool} {f : Nat → α} (l : List Nat) : (l.filter p).map f = l.filterMap fun x => if p x then some (f x) else none := by
  induction l with
  | nil => rfl
  | cons c l ih =>
    by_cases h : p c = true
    · rw [List.filter_cons_of_pos h, List.map_cons, List.filterMap_cons, if_pos h, ih]
    · rw [List.filter_cons_of_neg h, List.filterMap_cons, if_neg h, ih]
/-! ### The pairs of squares with a passage between, by rows -/
def upPairs (D : Garden) : List (Nat × Nat) := (List.range D.high).flatMap fun y => (List.range (D.wide - 1)).filterMap fun x =>
  if D.hedge (y * (D.wide - 1) + x) = true then none else some (y * D.wide + x, y * D.wide + x + 1)
def lvPairs (D : Garden) : List (Nat × Nat) := (List.range (D.high - 1)).flatMap fun y => (List.range D.wide).filterMap fun x =>
  if D.hedge (D.uprights + (y * D.wide + x)) = true then none else some (y * D.wide + x, (y + 1) * D.wide + x)
def passPairs (D : Garden) : List (Nat × Nat) := upPairs D ++ lvPairs D
theorem count_split (D : Garden) : List.range D.count = List.range (D.high * (D.wide - 1)) ++ (List.range ((D.high - 1) * D.wide)).map (D.uprights + ·) := by
  unfold Garden.count Garden.uprights
  rw [List.range_add, Nat.mul_comm (D.wide - 1), Nat.mul_comm D.wide]
theorem sq_up (D : Garden) {p : Nat} (h : p < D.high * (D.wide - 1)) : D.squaresAt p = ((p / (D.wide - 1)) * D.wide + p % (D.wide - 1), (p / (D.wide - 1)) * D.wide + p % (D.wide - 1) + 1) := by
  unfold Garden.squaresAt
  rw [if_pos (by unfold Garden.uprights; rw [Nat.mul_comm]; exact h)]
theorem sq_lv (D : Garden) (q : Nat) : D.squaresAt (D.uprights + q) = (q, q + D.wide) := by
  unfold Garden.squaresAt
  rw [if_neg (by omega)]
  have : D.uprights + q - D.uprights = q := by omega
  rw [this]
theorem passes_eq (D : Garden) : passPairs D = D.passages.map D.squaresAt := by
  unfold Garden.passages
  rw [filter_map_if, count_split, List.filterMap_append, List.filterMap_map]
  unfold passPairs upPairs lvPairs
  congr 1
  · rw [flat_filterMap (D.wide - 1) (fun y x => if D.hedge (y * (D.wide - 1) + x) = true then none else some (y * D.wide + x, y * D.wide + x + 1))]
    refine fmap_congr fun p hp => ?_
    have hp := List.mem_range.mp hp
    try dsimp only
    rw [Nat.div_add_mod' p, sq_up D hp]
    cases D.hedge p <;> rfl
  · rw [flat_filterMap D.wide (fun y x => if D.hedge (D.uprights + (y * D.wide + x)) = true then none else some (y * D.wide + x, (y + 1) * D.wide + x))]
    refine fmap_congr fun p hp => ?_
    dsimp only [Function.comp]
    rw [sq_lv, Nat.div_add_mod' p]
    have : (p / D.wide + 1) * D.wide + p % D.wide = p + D.wide := by
      have := Nat.div_add_mod' p D.wide
      rw [Nat.add_mul, Nat.one_mul]; omega
    rw [this]
    cases D.hedge (D.uprights + p) <;> rfl
theorem mem_up {D : Garden} {i j : Nat} : (i, j) ∈ upPairs D ↔ ∃ y x, y < D.high ∧ x < D.wide - 1 ∧ D.hedge (y * (D.wide - 1) + x) = false ∧ i = y * D.wide + x ∧ j = y * D.wide + x + 1 := by
  unfold upPairs
  simp only [List.mem_flatMap, List.mem_range, List.mem_filterMap]
  constructor
  · rintro ⟨y, hy, x, hx, e⟩
    by_cases q : D.hedge (y * (D.wide - 1) + x) = true
    · rw [if_pos q] at e; cases e
    · rw [if_neg q] at e
      cases e
      exact ⟨y, x, hy, hx, by simpa using q, rfl, rfl⟩
  · rintro ⟨y, x, hy, hx, q, rfl, rfl⟩
    exact ⟨y, hy, x, hx, by rw [q]; rfl⟩
theorem mem_lv {D : Garden} {i j : Nat} : (i, j) ∈ lvPairs D ↔ ∃ y x, y < D.high - 1 ∧ x < D.wide ∧ D.hedge (D.uprights + (y * D.wide + x)) = false ∧ i = y * D.wide + x ∧ j = (y + 1) * D.wide + x := by
  unfold lvPairs
  simp only [List.mem_flatMap, List.mem_range, List.mem_filterMap]
  constructor
  · rintro ⟨y, hy, x, hx, e⟩
    by_cases q : D.hedge (D.uprights + (y * D.wide + x)) = true
    · rw [if_pos q] at e; cases e
    · rw [if_neg q] at e
      cases e
      exact ⟨y, x, hy, hx, by simpa using q, rfl, rfl⟩
  · rintro ⟨y, x, hy, hx, q, rfl, rfl⟩
    exact ⟨y, hy, x, hx, by rw [q]; rfl⟩
theorem pass_lt {D : Garden} {i j : Nat} (h : inL (passPairs D) i j) : i < D.squares ∧ j < D.squares := by
  unfold Garden.squares
  rw [Nat.mul_comm]
  rcases List.mem_append.mp h with h | h
  · obtain ⟨y, x, hy, hx, _, rfl, rfl⟩ := mem_up.mp h
    exact ⟨rc_lt hy (by omega), by rw [Nat.add_assoc]; exact rc_lt hy (by omega)⟩
  · obtain ⟨y, x, hy, hx, _, rfl, rfl⟩ := mem_lv.mp h
    exact ⟨rc_lt (by omega) hx, rc_lt (by omega) hx⟩
theorem goes_eq (D : Garden) (s k t : Nat) : D.goes s k = some t ↔ D.beyond s k = some t ∧ D.hedge (D.sideOf s k) = false := by
  unfold Garden.goes
  cases D.beyond s k with
  | none => simp
  | some u =>
    by_cases q : D.hedge (D.sideOf s k) = true
    · simp [q]
    · simp [q]
theorem mem_outs {D : Garden} {s t : Nat} : t ∈ D.outs s ↔ D.goes s 0 = some t ∨ D.goes s 1 = some t ∨ D.goes s 2 = some t ∨ D.goes s 3 = some t := by
  unfold Garden.outs
  rw [List.mem_filterMap]
  constructor
  · rintro ⟨k, hk, e⟩
    have hk := List.mem_range.mp hk
    match k, hk, e with
    | 0, _, e => exact .inl e
    | 1, _, e => exact .inr (.inl e)
    | 2, _, e => exact .inr (.inr (.inl e))
    | 3, _, e => exact .inr (.inr (.inr e))
  · rintro (e | e | e | e)
    · exact ⟨0, by decide, e⟩
    · exact ⟨1, by decide, e⟩
    · exact ⟨2, by decide, e⟩
    · exact ⟨3, by decide, e⟩
theorem beyond0 {D : Garden} {x y t : Nat} (hx : x < D.wide) : D.goes (y * D.wide + x) 0 = some t ↔ 0 < y ∧ t = (y - 1) * D.wide + x ∧ D.hedge (D.uprights + ((y - 1) * D.wide + x)) = false := by
  rw [goes_eq]
  unfold Garden.beyond Garden.sideOf Garden.row Garden.col
  rw [rc_div hx, rc_mod hx]
  simp only [if_true]
  rw [goes_if]
  have e : 0 < y → y * D.wide + x - D.wide = (y - 1) * D.wide + x := fun h => by
    obtain ⟨z, rfl⟩ : ∃ z, y = z + 1 := ⟨y - 1, by omega⟩
    rw [Nat.add_mul, Nat.one_mul]; simp; omega
  constructor
  · rintro ⟨a, b, c⟩; exact ⟨a, by rw [b, e a], c⟩
  · rintro ⟨a, b, c⟩; exact ⟨a, by rw [b, e a], c⟩
theorem beyond1 {D : Garden} {x y t : Nat} (hx : x < D.wide) : D.goes (y * D.wide + x) 1 = some t ↔ x + 1 < D.wide ∧ t = y * D.wide + x + 1 ∧ D.hedge (y * (D.wide - 1) + x) = false := by
  rw [goes_eq]
  unfold Garden.beyond Garden.sideOf Garden.row Garden.col
  rw [rc_div hx, rc_mod hx]
  simp only [show ¬ (1 : Nat) = 0 by decide, if_true, if_false]
  exact goes_if
theorem beyond2 {D : Garden} {x y t : Nat} (hx : x < D.wide) : D.goes (y * D.wide + x) 2 = some t ↔ y + 1 < D.high ∧ t = (y + 1) * D.wide + x ∧ D.hedge (D.uprights + (y * D.wide + x)) = false := by
  rw [goes_eq]
  unfold Garden.beyond Garden.sideOf Garden.row Garden.col
  rw [rc_div hx, rc_mod hx]
  have e : y * D.wide + x + D.wide = (y + 1) * D.wide + x := by rw [Nat.add_mul, Nat.one_mul]; omega
  simp only [show ¬ (2 : Nat) = 0 by decide, show ¬ (2 : Nat) = 1 by decide, show ¬ (2 : Nat) = 3 by decide, if_true, if_false]
  rw [e]
  exact goes_if
theorem beyond3 {D : Garden} {x y t : Nat} (hx : x < D.wide) : D.goes (y * D.wide + x) 3 = some t ↔ 0 < x ∧ t = y * D.wide + (x - 1) ∧ D.hedge (y * (D.wide - 1) + (x - 1)) = false := by
  rw [goes_eq]
  unfold Garden.beyond Garden.sideOf Garden.row Garden.col
  rw [rc_div hx, rc_mod hx]
  simp only [show ¬ (3 : Nat) = 0 by decide, show ¬ (3 : Nat) = 1 by decide, show ¬ (3 : Nat) = 2 by decide, if_true, if_false]
  rw [goes_if]
  constructor
  · rintro ⟨a, b, c⟩; exact ⟨a, by omega, c⟩
  · rintro ⟨a, b, c⟩; exact ⟨a, by omega, c⟩
theorem sq_rc {D : Garden} {s : Nat} (h : s < D.squares) : ∃ y x, y < D.high ∧ x < D.wide ∧ s = y * D.wide + x := by
  unfold Garden.squares at h
  have w0 : 0 < D.wide := by
    rcases Nat.eq_zero_or_pos D.wide with e | e
    · rw [e] at h; simp at h
    · exact e
  refine ⟨s / D.wide, s % D.wide, Nat.div_lt_of_lt_mul h, Nat.mod_lt _ w0, (Nat.div_add_mod' s D.wide).symm⟩
theorem outs_pass {D : Garden} {s t : Nat} (hs : s < D.squares) : t ∈ D.outs s ↔ inL (passPairs D) s t ∨ inL (passPairs D) t s := by
  obtain ⟨y, x, hy, hx, rfl⟩ := sq_rc hs
  rw [mem_outs, beyond0 hx, beyond1 hx, beyond2 hx, beyond3 hx]
  unfold inL passPairs
  rw [List.mem_append, List.mem_append, mem_up, mem_lv, mem_up, mem_lv]
  constructor
  · rintro (⟨a, rfl, b⟩ | ⟨a, rfl, b⟩ | ⟨a, rfl, b⟩ | ⟨a, rfl, b⟩)
    · exact .inr (.inr ⟨y - 1, x, by omega, hx, b, rfl, by rw [show y - 1 + 1 = y by omega]⟩)
    · exact .inl (.inl ⟨y, x, hy, by omega, b, rfl, rfl⟩)
    · exact .inl (.inr ⟨y, x, by omega, hx, b, rfl, rfl⟩)
    · exact .inr (.inl ⟨y, x - 1, hy, by omega, b, rfl, by omega⟩)
  · rintro ((⟨y', x', a, b, c, e, rfl⟩ | ⟨y', x', a, b, c, e, rfl⟩) | (⟨y', x', a, b, c, rfl, e⟩ | ⟨y', x', a, b, c, rfl, e⟩))
    · obtain ⟨rfl, rfl⟩ := rc_inj hx (by omega) e
      exact .inr (.inl ⟨by omega, rfl, c⟩)
    · obtain ⟨rfl, rfl⟩ := rc_inj hx b e
      exact .inr (.inr (.inl ⟨by omega, rfl, c⟩))
    · obtain ⟨rfl, rfl⟩ := rc_inj (x' := x' + 1) hx (by omega) (by omega)
      exact .inr (.inr (.inr ⟨by omega, by omega, by rw [show x' + 1 - 1 = x' by omega]; exact c⟩))
    · obtain ⟨rfl, rfl⟩ := rc_inj hx b e
      refine .inl ⟨by omega, by rw [show y' + 1 - 1 = y' by omega], by rw [show y' + 1 - 1 = y' by omega]; exact c⟩
theorem outs_lt (D : Garden) (u t : Nat) (hu : u < D.squares) (h : t ∈ D.outs u) : t < D.squares := by
  rcases (outs_pass hu).mp h with h | h
  · exact (pass_lt h).2
  · exact (pass_lt h).1
theorem walk_pass (D : Garden) (s t : Nat) (hs : s < D.squares) : (∃ k, Walk D s t k) ↔ Conn (inL (passPairs D)) s t := by
  constructor
  · rintro ⟨k, w⟩
    refine walk_conn (outs_lt D) (fun u t hu h => ?_) hs w
    rcases (outs_pass hu).mp h with h | h
    · exact .base h
    · exact (Conn.base h).symm
  · intro c
    refine (conn_walk (fun i j h => ?_) c).1
    have := pass_lt h
    exact ⟨(outs_pass this.1).mpr (.inl h), (outs_pass this.2).mpr (.inr h)⟩
/-- rooms by the least squares that passages join -/
def roomLeast (D : Garden) : List Nat := leastJoined D.squares (passPairs D)
theorem roomLeast_ok (D : Garden) : Least D.squares (inL (passPairs D)) (roomLeast D) := least_joined fun e h => pass_lt (i := e.1) (j := e.2) h
theorem rooms_told (D : Garden) : D.rooms = cnt (roomLeast D) D.squares := (rooms_cnt (roomLeast_ok D) (outs_lt D) (fun s t hs _ => walk_pass D s t hs)).1
theorem roomOf_told (D : Garden) {s : Nat} (h : s < D.squares) : D.roomOf s = cnt (roomLeast D) (at0 (roomLeast D) s) := (rooms_cnt (roomLeast_ok D) (outs_lt D) (fun s t hs _ => walk_pass D s t hs)).2 s h
theorem rings_told (D : Garden) : (D.rings : Int) = ((passPairs D).length : Int) + (cnt (roomLeast D) D.squares : Int) - (D.squares : Int) := by
  unfold Garden.rings
  rw [rooms_told]
  have := cnt_joined D.squares (passPairs D)
  have e : (passPairs D).length = D.passages.length := by rw [passes_eq, List.length_map]
  unfold roomLeast
  omega
/-! ### Corners -/
def cornerAt (D : Garden) (x y : Nat) : Nat := if x = 0 ∨ x = D.wide ∨ y = 0 ∨ y = D.high then 0 else 1 + (y - 1) * (D.wide - 1) + x - 1
def upHedges (D : Garden) : List (Nat × Nat) := (List.range D.high).flatMap fun y => (List.range (D.wide - 1)).filterMap fun x =>
  if D.hedge (y * (D.wide - 1) + x) = true then some (cornerAt D (x + 1) y, cornerAt D (x + 1) (y + 1)) else none
def lvHedges (D : Garden) : List (Nat × Nat) := (List.range (D.high - 1)).flatMap fun y => (List.range D.wide).filterMap fun x =>
  if D.hedge (D.uprights + (y * D.wide + x)) = true then some (cornerAt D x (y + 1), cornerAt D (x + 1) (y + 1)) else none
def hedgePairs (D : Garden) : List (Nat × Nat) := upHedges D ++ lvHedges D
def corners (D : Garden) : Nat := 1 + (D.high - 1) * (D.wide - 1)
theorem corners_flat (D : Garden) : D.cornerList = 0 :: (List.range ((D.high - 1) * (D.wide - 1))).map fun p => (p / (D.wide - 1) + 1) * (D.wide + 1) + (p % (D.wide - 1) + 1) := by
  unfold Garden.cornerList
  rw [flat_map (D.wide - 1) (fun y x => (y + 1) * (D.wide + 1) + (x + 1))]
theorem corners_len (D : Garden) : D.cornerList.length = corners D := by
  rw [corners_flat, List.length_cons, List.length_map, List.length_range, corners, Nat.add_comm]
theorem corners_nd (D : Garden) : D.cornerList.Nodup := by
  rw [corners_flat, List.nodup_cons]
  constructor
  · intro h
    obtain ⟨p, _, e⟩ := List.mem_map.mp h
    omega
  · unfold List.Nodup
    rw [List.pairwise_map]
    refine List.Pairwise.imp_of_mem ?_ (List.nodup_range (n := (D.high - 1) * (D.wide - 1)))
    intro p q hp hq ne e
    have hp := List.mem_range.mp hp
    have w0 : 0 < D.wide - 1 := by
      rcases Nat.eq_zero_or_pos (D.wide - 1) with z | z
      · rw [z] at hp; simp at hp
      · exact z
    have hp1 := Nat.mod_lt p w0
    have hq1 := Nat.mod_lt q w0
    obtain ⟨e1, e2⟩ := rc_inj (b := D.wide + 1) (by omega) (by omega) e
    apply ne
    rw [← Nat.div_add_mod' p (D.wide - 1), ← Nat.div_add_mod' q (D.wide - 1), show p / (D.wide - 1) = q / (D.wide - 1) by omega, show p % (D.wide - 1) = q % (D.wide - 1) by omega]
theorem corner_told (D : Garden) {x y : Nat} (hx : x ≤ D.wide) (hy : y ≤ D.high) : cornerAt D x y < corners D ∧ at0 D.cornerList (cornerAt D x y) = D.corner x y := by
  unfold cornerAt Garden.corner
  by_cases q : x = 0 ∨ x = D.wide ∨ y = 0 ∨ y = D.high
  · rw [if_pos q, if_pos (by omega)]
    refine ⟨by unfold corners; omega, ?_⟩
    rw [corners_flat]
    rfl
  · rw [if_neg q, if_neg (by omega)]
    have h1 : x - 1 < D.wide - 1 := by omega
    have h2 : y - 1 < D.high - 1 := by omega
    have := rc_lt h2 h1
    have e : 1 + (y - 1) * (D.wide - 1) + x - 1 = ((y - 1) * (D.wide - 1) + (x - 1)) + 1 := by omega
    rw [e]
    refine ⟨by unfold corners; omega, ?_⟩
    rw [corners_flat]
    unfold at0
    rw [List.getD_cons_succ, List.getD_eq_getElem?_getD, List.getElem?_map, List.getElem?_range this]
    show (((y - 1) * (D.wide - 1) + (x - 1)) / (D.wide - 1) + 1) * (D.wide + 1) + (((y - 1) * (D.wide - 1) + (x - 1)) % (D.wide - 1) + 1) = _
    rw [rc_div h1, rc_mod h1, show y - 1 + 1 = y by omega, show x - 1 + 1 = x by omega]
theorem hedges_told (D : Garden) : (D.standing.map D.endsOf) = (hedgePairs D).map fun e => (at0 D.cornerList e.1, at0 D.cornerList e.2) := by
  unfold Garden.standing
  rw [filter_map_if, count_split, List.filterMap_append, List.filterMap_map]
  unfold hedgePairs upHedges lvHedges
  rw [List.map_append]
  congr 1
  · rw [flat_filterMap (D.wide - 1) (fun y x => if D.hedge (y * (D.wide - 1) + x) = true then some (cornerAt D (x + 1) y, cornerAt D (x + 1) (y + 1)) else none), List.map_filterMap]
    refine fmap_congr fun p hp => ?_
    have hp := List.mem_range.mp hp
    try dsimp only
    rw [Nat.div_add_mod' p]
    by_cases q : D.hedge p = true
    · rw [if_pos q, if_pos q, Option.map_some]
      have w0 : 0 < D.wide - 1 := by
        rcases Nat.eq_zero_or_pos (D.wide - 1) with z | z
        · rw [z] at hp; simp at hp
        · exact z
      have h1 := Nat.mod_lt p w0
      have h2 : p / (D.wide - 1) < D.high := Nat.div_lt_of_lt_mul (by rw [Nat.mul_comm]; exact hp)
      rw [(corner_told D (by omega) (by omega)).2, (corner_told D (by omega) (by omega)).2]
      unfold Garden.endsOf
      rw [sq_up D hp]
      dsimp only
      rw [if_pos (by unfold Garden.uprights; rw [Nat.mul_comm]; exact hp)]
      unfold Garden.col Garden.row
      rw [Nat.add_assoc, rc_div (by omega), rc_mod (by omega)]
    · rw [if_neg q, if_neg q]; rfl
  · rw [flat_filterMap D.wide (fun y x => if D.hedge (D.uprights + (y * D.wide + x)) = true then some (cornerAt D x (y + 1), cornerAt D (x + 1) (y + 1)) else none), List.map_filterMap]
    refine fmap_congr fun p hp => ?_
    have hp := List.mem_range.mp hp
    dsimp only [Function.comp]
    rw [Nat.div_add_mod' p]
    by_cases q : D.hedge (D.uprights + p) = true
    · rw [if_pos q, if_pos q, Option.map_some]
      have w0 : 0 < D.wide := by
        rcases Nat.eq_zero_or_pos D.wide with z | z
        · rw [z] at hp; simp at hp
        · exact z
      have h1 := Nat.mod_lt p w0
      have h2 : p / D.wide < D.high - 1 := Nat.div_lt_of_lt_mul (by rw [Nat.mul_comm]; exact hp)
      rw [(corner_told D (by omega) (by omega)).2, (corner_told D (by omega) (by omega)).2]
      unfold Garden.endsOf
      rw [sq_lv]
      dsimp only
      rw [if_neg (by omega)]
      unfold Garden.col Garden.row
      have : p + D.wide = (p / D.wide + 1) * D.wide + p % D.wide := by
        have := Nat.div_add_mod' p D.wide
        rw [Nat.add_mul, Nat.one_mul]; omega
      rw [this, rc_div h1, rc_mod h1]
    · rw [if_neg q, if_neg q]; rfl
theorem hedges_lt (D : Garden) : ∀ e ∈ hedgePairs D, e.1 < corners D ∧ e.2 < corners D := by
  intro e h
  unfold hedgePairs upHedges lvHedges at h
  simp only [List.mem_append, List.mem_flatMap, List.mem_range, List.mem_filterMap] at h
  rcases h with ⟨y, hy, x, hx, e1⟩ | ⟨y, hy, x, hx, e1⟩
  · split at e1
    · cases e1
      exact ⟨(corner_told D (by omega) (by omega)).1, (corner_told D (by omega) (by omega)).1⟩
    · cases e1
  · split at e1
    · cases e1
      exact ⟨(corner_told D (by omega) (by omega)).1, (corner_told D (by omega) (by omega)).1⟩
    · cases e1
theorem islands_told (D : Garden) : D.islands = cnt (leastJoined (corners D) (hedgePairs D)) (corners D) - 1 := by
  unfold Garden.islands
  rw [hedges_told, islands_cnt (corners_nd D) (corners_len D) (hedges_lt D)]
theorem islands_int (D : Garden) : (D.islands : Int) = (cnt (leastJoined (corners D) (hedgePairs D)) (corners D) : Int) - 1 := by
  have := cnt_pos (least_joined (hedges_lt D)) (by unfold corners; omega)
  rw [islands_told]
  omega
end Hw
end
section
set_option Elab.async false
namespace Hw
open Maze
/-! ### Reading a drawing -/
def sg (B : Bytes) (i : Nat) : UInt8 := B.getD i 0
/-- the signs that may stand at a place of a garden so wide and high -/
def okSign (w h l c : Nat) (b : UInt8) : Prop :=
  if c = 2 * w + 1 then b = 10
  else if l % 2 = 0 ∧ c % 2 = 0 then b = 43
  else if l % 2 = 1 ∧ c % 2 = 1 then b = 32
  else if l % 2 = 0 then (if l = 0 ∨ l = 2 * h then b = 45 else b = 45 ∨ b = 32)
  else (if c = 0 ∨ c = 2 * w then b = 124 else b = 124 ∨ b = 32)
/-- .. while the height is not known -/
def okPart (w l c : Nat) (b : UInt8) : Prop :=
  if c = 2 * w + 1 then b = 10
  else if l % 2 = 0 ∧ c % 2 = 0 then b = 43
  else if l % 2 = 1 ∧ c % 2 = 1 then b = 32
  else if l % 2 = 0 then (if l = 0 then b = 45 else b = 45 ∨ b = 32)
  else (if c = 0 ∨ c = 2 * w then b = 124 else b = 124 ∨ b = 32)
structure Fits (B : Bytes) (w h : Nat) : Prop where
  w1 : 1 ≤ w
  w2 : w ≤ 10
  h1 : 1 ≤ h
  h2 : h ≤ 10
  len : B.length = (2 * h + 1) * (2 * w + 2)
  ok : ∀ l c, l < 2 * h + 1 → c < 2 * w + 2 → okSign w h l c (sg B (l * (2 * w + 2) + c))
/-- a table told row by row, as far as k -/
def TabOk (b : Nat) (f : Nat → Nat → Bool) (l : List Bool) (k : Nat) : Prop := l.length = k ∧ ∀ y x, x < b → y * b + x < k → l.getD (y * b + x) true = f y x
theorem TabOk.nil {b : Nat} {f : Nat → Nat → Bool} {k : Nat} (h : k = 0) : TabOk b f [] k := by
  subst h; exact ⟨rfl, fun y x _ h => absurd h (Nat.not_lt_zero _)⟩
theorem TabOk.push {b : Nat} {f : Nat → Nat → Bool} {l : List Bool} {k y x : Nat} {v : Bool} (T : TabOk b f l k) (hk : k = y * b + x) (hx : x < b) (hv : v = f y x) : TabOk b f (l ++ [v]) (k + 1) := by
  obtain ⟨h1, h2⟩ := T
  refine ⟨by rw [List.length_append, h1]; rfl, fun y' x' hx' hlt => ?_⟩
  by_cases e : y' * b + x' < k
  · rw [List.getD_eq_getElem?_getD, List.getElem?_append_left (by omega), ← List.getD_eq_getElem?_getD]
    exact h2 y' x' hx' e
  · have e2 : y' * b + x' = k := by omega
    obtain ⟨rfl, rfl⟩ := rc_inj hx' hx (e2.trans hk)
    rw [List.getD_eq_getElem?_getD, List.getElem?_append_right (by omega), h1, e2, Nat.sub_self, hv]
    rfl
theorem TabOk.cast {b : Nat} {f : Nat → Nat → Bool} {l l' : List Bool} {k k' : Nat} (T : TabOk b f l k) (h : l = l') (e : k = k') : TabOk b f l' k' := by subst h; subst e; exact T
def fU (B : Bytes) (w y x : Nat) : Bool := sg B ((2 * y + 1) * (2 * w + 2) + (2 * x + 2)) == 124
def fL (B : Bytes) (w y x : Nat) : Bool := sg B ((2 * y + 2) * (2 * w + 2) + (2 * x + 1)) == 45
def Seen (B : Bytes) (w p : Nat) : Prop := ∀ l c, c < 2 * w + 2 → l * (2 * w + 2) + c < p → okPart w l c (sg B (l * (2 * w + 2) + c))
theorem Seen.step {B : Bytes} {w p l c : Nat} (S : Seen B w p) (hp : p = l * (2 * w + 2) + c) (hc : c < 2 * w + 2) (ok : okPart w l c (sg B p)) : Seen B w (p + 1) := by
  intro l' c' hc' h
  by_cases e : l' * (2 * w + 2) + c' < p
  · exact S l' c' hc' e
  · have e2 : l' * (2 * w + 2) + c' = l * (2 * w + 2) + c := by omega
    obtain ⟨rfl, rfl⟩ := rc_inj hc' hc e2
    rw [← hp]
    exact ok
structure SFirst (B : Bytes) (p : Nat) (z : Scan) : Prop where
  line : z.line = 0
  col : z.col = p
  full : z.full = true
  up : z.up = []
  lev : z.lev = []
  cur : z.cur = []
  p21 : p ≤ 21
  seen : ∀ i, i < p → (i % 2 = 0 → sg B i = 43) ∧ (i % 2 = 1 → sg B i = 45)
structure SOdd (B : Bytes) (p : Nat) (z : Scan) (y : Nat) : Prop where
  line : z.line = 2 * y + 1
  w1 : 1 ≤ z.wide
  w2 : z.wide ≤ 10
  col : z.col ≤ 2 * z.wide + 1
  at_ : p = (2 * y + 1) * (2 * z.wide + 2) + z.col
  y10 : y ≤ 10
  y9 : 0 < z.col → y < 10
  seen : Seen B z.wide p
  up : TabOk (z.wide - 1) (fU B z.wide) z.up (y * (z.wide - 1) + min ((z.col - 1) / 2) (z.wide - 1))
  lv : TabOk z.wide (fL B z.wide) (z.lev ++ z.cur) (y * z.wide)
  cur : 0 < z.col → z.cur = []
  lev : z.col = 0 → 0 < y → z.lev.length = (y - 1) * z.wide
  full : z.col = 0 → 0 < y → (z.full = true ↔ ∀ x, x < z.wide → sg B ((2 * y) * (2 * z.wide + 2) + (2 * x + 1)) = 45)
structure SEven (B : Bytes) (p : Nat) (z : Scan) (y : Nat) : Prop where
  line : z.line = 2 * y + 2
  w1 : 1 ≤ z.wide
  w2 : z.wide ≤ 10
  col : z.col ≤ 2 * z.wide + 1
  at_ : p = (2 * y + 2) * (2 * z.wide + 2) + z.col
  y9 : y < 10
  seen : Seen B z.wide p
  up : TabOk (z.wide - 1) (fU B z.wide) z.up ((y + 1) * (z.wide - 1))
  lv : TabOk z.wide (fL B z.wide) (z.lev ++ z.cur) (y * z.wide + z.col / 2)
  lev : z.lev.length = y * z.wide
  full : z.full = true ↔ ∀ x, 2 * x + 1 < z.col → x < z.wide → sg B ((2 * y + 2) * (2 * z.wide + 2) + (2 * x + 1)) = 45
inductive SInv (B : Bytes) (p : Nat) (z : Scan) : Prop
  | first : SFirst B p z → SInv B p z
  | odd (y : Nat) : SOdd B p z y → SInv B p z
  | even (y : Nat) : SEven B p z y → SInv B p z
theorem sign_first {z : Scan} (h : z.line = 0) (c : UInt8) : z.sign c =
    (if z.col % 2 = 0 then (if c = 43 then some { z with col := z.col + 1 } else none)
    else if c = 45 ∧ z.col / 2 < SIDE then some { z with col := z.col + 1 }
    else if c = 10 ∧ 3 ≤ z.col then some { z with line := 1, col := 0, wide := z.col / 2 } else none) := by
  unfold Scan.sign
  rw [if_pos h]
theorem sign_odd {z : Scan} {y : Nat} (h : z.line = 2 * y + 1) (c : UInt8) : z.sign c =
    (if z.col = 0 then (if c = 124 ∧ y < 10 then some { z with col := 1, lev := z.lev ++ z.cur, cur := [] } else none)
    else if z.col = 2 * z.wide + 1 then (if c = 10 then some { z with line := z.line + 1, col := 0, full := true } else none)
    else if z.col % 2 = 1 then (if c = 32 then some { z with col := z.col + 1 } else none)
    else if z.col = 2 * z.wide then (if c = 124 then some { z with col := z.col + 1 } else none)
    else if c = 124 ∨ c = 32 then some { z with col := z.col + 1, up := z.up ++ [c == 124] } else none) := by
  unfold Scan.sign
  rw [if_neg (by omega), if_pos (by omega)]
  have : z.line / 2 = y := by omega
  rw [this]
  rfl
theorem sign_even {z : Scan} {y : Nat} (h : z.line = 2 * y + 2) (c : UInt8) : z.sign c =
    (if z.col = 2 * z.wide + 1 then (if c = 10 then some { z with line := z.line + 1, col := 0 } else none)
    else if z.col % 2 = 0 then (if c = 43 then some { z with col := z.col + 1 } else none)
    else if c = 45 then some { z with col := z.col + 1, cur := z.cur ++ [true] }
    else if c = 32 ∧ y + 1 < 10 then some { z with col := z.col + 1, cur := z.cur ++ [false], full := false } else none) := by
  unfold Scan.sign
  rw [if_neg (by omega), if_neg (by omega)]
  have : z.line / 2 = y + 1 := by omega
  rw [this]
  rfl
theorem SFirst.step {B : Bytes} {p : Nat} {z z' : Scan} (I : SFirst B p z) (h : z.sign (sg B p) = some z') : SInv B (p + 1) z' := by
  obtain ⟨hl, hc, hf, hu, hlv, hcu, hp, hs⟩ := I
  rw [sign_first hl, hc] at h
  by_cases e : p % 2 = 0
  · rw [if_pos e] at h
    by_cases q : sg B p = 43
    · rw [if_pos q] at h
      cases h
      refine .first ⟨hl, rfl, hf, hu, hlv, hcu, by omega, fun i hi => ?_⟩
      by_cases ei : i = p
      · subst ei; exact ⟨fun _ => q, fun z => by omega⟩
      · exact hs i (by omega)
    · rw [if_neg q] at h; cases h
  · rw [if_neg e] at h
    by_cases q : sg B p = 45 ∧ p / 2 < SIDE
    · rw [if_pos q] at h
      cases h
      have : p / 2 < 10 := q.2
      refine .first ⟨hl, rfl, hf, hu, hlv, hcu, by omega, fun i hi => ?_⟩
      by_cases ei : i = p
      · subst ei; exact ⟨fun z => by omega, fun _ => q.1⟩
      · exact hs i (by omega)
    · rw [if_neg q] at h
      by_cases q2 : sg B p = 10 ∧ 3 ≤ p
      · rw [if_pos q2] at h
        cases h
        have hw : p = 2 * (p / 2) + 1 := by omega
        refine .odd 0 ⟨rfl, ?_, ?_, Nat.zero_le _, ?_, by omega, fun _ => by omega, ?_, ?_, ?_, fun _ => hcu, fun _ h => by omega, fun _ h => by omega⟩
        · show 1 ≤ p / 2; omega
        · show p / 2 ≤ 10; omega
        · show p + 1 = (2 * 0 + 1) * (2 * (p / 2) + 2) + 0; omega
        · show Seen B (p / 2) (p + 1)
          intro l c hcl hlt
          have l0 : l = 0 := by
            rcases Nat.eq_zero_or_pos l with z | z
            · exact z
            · exfalso
              have : 1 * (2 * (p / 2) + 2) ≤ l * (2 * (p / 2) + 2) := Nat.mul_le_mul_right _ z
              omega
          subst l0
          rw [Nat.zero_mul, Nat.zero_add]
          unfold okPart
          by_cases ec : c = 2 * (p / 2) + 1
          · rw [if_pos ec, ec, ← hw]; exact q2.1
          · rw [if_neg ec]
            have := hs c (by omega)
            by_cases e2 : c % 2 = 0
            · rw [if_pos ⟨rfl, e2⟩]; exact this.1 e2
            · rw [if_neg (by omega), if_neg (by omega), if_pos rfl, if_pos rfl]; exact this.2 (by omega)
        · show TabOk _ _ z.up _
          rw [hu]
          refine TabOk.nil ?_
          show 0 * _ + min ((0 - 1) / 2) _ = 0
          omega
        · show TabOk _ _ (z.lev ++ z.cur) _
          rw [hlv, hcu]
          exact TabOk.nil (by omega)
      · rw [if_neg q2] at h; cases h
theorem SOdd.step {B : Bytes} {p y : Nat} {z z' : Scan} (I : SOdd B p z y) (h : z.sign (sg B p) = some z') : SInv B (p + 1) z' := by
  have hat := I.at_
  have hcl := I.col
  rw [sign_odd I.line] at h
  by_cases e : z.col = 0
  · rw [if_pos e] at h
    by_cases q : sg B p = 124 ∧ y < 10
    · rw [if_pos q] at h
      cases h
      refine .odd y ⟨I.line, I.w1, I.w2, ?_, ?_, I.y10, fun _ => q.2, ?_, ?_, ?_, fun _ => rfl, (fun h => nomatch h), (fun h => nomatch h)⟩
      · show 1 ≤ 2 * z.wide + 1; omega
      · show p + 1 = (2 * y + 1) * (2 * z.wide + 2) + 1; omega
      · refine I.seen.step hat (by omega) ?_
        unfold okPart
        rw [if_neg (by omega), if_neg (by omega), if_neg (by omega), if_neg (by omega), if_pos (.inl e)]
        exact q.1
      · refine I.up.cast rfl ?_
        show _ = y * (z.wide - 1) + min ((1 - 1) / 2) (z.wide - 1)
        rw [e]
      · exact I.lv.cast (by show z.lev ++ z.cur = z.lev ++ z.cur ++ []; rw [List.append_nil]) rfl
    · rw [if_neg q] at h; cases h
  · rw [if_neg e] at h
    have hcur := I.cur (by omega)
    have hy := I.y9 (by omega)
    by_cases e1 : z.col = 2 * z.wide + 1
    · rw [if_pos e1] at h
      by_cases q : sg B p = 10
      · rw [if_pos q] at h
        cases h
        have hW : (2 * y + 2) * (2 * z.wide + 2) = (2 * y + 1) * (2 * z.wide + 2) + (2 * z.wide + 2) := Nat.succ_mul _ _
        refine .even y ⟨by show z.line + 1 = _; rw [I.line], I.w1, I.w2, Nat.zero_le _, ?_, hy, ?_, ?_, ?_, ?_, ?_⟩
        · show p + 1 = (2 * y + 2) * (2 * z.wide + 2) + 0
          omega
        · refine I.seen.step hat (by omega) ?_
          unfold okPart
          rw [if_pos e1]
          exact q
        · refine I.up.cast rfl ?_
          show _ = (y + 1) * (z.wide - 1)
          rw [Nat.add_mul, Nat.one_mul]
          omega
        · refine I.lv.cast rfl ?_
          show _ = y * z.wide + 0 / 2
          omega
        · show z.lev.length = _
          have := I.lv.1
          rw [hcur, List.append_nil] at this
          exact this
        · show true = true ↔ _
          exact ⟨fun _ x h => absurd h (Nat.not_lt_zero _), fun _ => rfl⟩
      · rw [if_neg q] at h; cases h
    · rw [if_neg e1] at h
      by_cases e2 : z.col % 2 = 1
      · rw [if_pos e2] at h
        by_cases q : sg B p = 32
        · rw [if_pos q] at h
          cases h
          refine .odd y ⟨I.line, I.w1, I.w2, ?_, ?_, I.y10, fun _ => hy, ?_, ?_, I.lv, fun _ => hcur, (fun h => nomatch h), (fun h => nomatch h)⟩
          · show z.col + 1 ≤ 2 * z.wide + 1; omega
          · show p + 1 = (2 * y + 1) * (2 * z.wide + 2) + (z.col + 1); omega
          · refine I.seen.step hat (by omega) ?_
            unfold okPart
            rw [if_neg (by omega), if_neg (by omega), if_pos (by omega)]
            exact q
          · refine I.up.cast rfl ?_
            show _ = y * (z.wide - 1) + min ((z.col + 1 - 1) / 2) (z.wide - 1)
            omega
        · rw [if_neg q] at h; cases h
      · rw [if_neg e2] at h
        by_cases e3 : z.col = 2 * z.wide
        · rw [if_pos e3] at h
          by_cases q : sg B p = 124
          · rw [if_pos q] at h
            cases h
            refine .odd y ⟨I.line, I.w1, I.w2, ?_, ?_, I.y10, fun _ => hy, ?_, ?_, I.lv, fun _ => hcur, (fun h => nomatch h), (fun h => nomatch h)⟩
            · show z.col + 1 ≤ 2 * z.wide + 1; omega
            · show p + 1 = (2 * y + 1) * (2 * z.wide + 2) + (z.col + 1); omega
            · refine I.seen.step hat (by omega) ?_
              unfold okPart
              rw [if_neg (by omega), if_neg (by omega), if_neg (by omega), if_neg (by omega), if_pos (.inr e3)]
              exact q
            · refine I.up.cast rfl ?_
              show _ = y * (z.wide - 1) + min ((z.col + 1 - 1) / 2) (z.wide - 1)
              omega
          · rw [if_neg q] at h; cases h
        · rw [if_neg e3] at h
          by_cases q : sg B p = 124 ∨ sg B p = 32
          · rw [if_pos q] at h
            cases h
            refine .odd y ⟨I.line, I.w1, I.w2, ?_, ?_, I.y10, fun _ => hy, ?_, ?_, I.lv, fun _ => hcur, (fun h => nomatch h), (fun h => nomatch h)⟩
            · show z.col + 1 ≤ 2 * z.wide + 1; omega
            · show p + 1 = (2 * y + 1) * (2 * z.wide + 2) + (z.col + 1); omega
            · refine I.seen.step hat (by omega) ?_
              unfold okPart
              rw [if_neg (by omega), if_neg (by omega), if_neg (by omega), if_neg (by omega), if_neg (by omega)]
              exact q
            · refine TabOk.cast (I.up.push (y := y) (x := z.col / 2 - 1) ?_ ?_ ?_) rfl ?_
              · omega
              · omega
              · unfold fU
                rw [show 2 * (z.col / 2 - 1) + 2 = z.col by omega, ← hat]
              · show _ = y * (z.wide - 1) + min ((z.col + 1 - 1) / 2) (z.wide - 1)
                omega
          · rw [if_neg q] at h; cases h
theorem SEven.step {B : Bytes} {p y : Nat} {z z' : Scan} (I : SEven B p z y) (h : z.sign (sg B p) = some z') : SInv B (p + 1) z' := by
  have hat := I.at_
  have hcl := I.col
  have hy := I.y9
  rw [sign_even I.line] at h
  by_cases e1 : z.col = 2 * z.wide + 1
  · rw [if_pos e1] at h
    by_cases q : sg B p = 10
    · rw [if_pos q] at h
      cases h
      have hW : (2 * (y + 1) + 1) * (2 * z.wide + 2) = (2 * y + 2) * (2 * z.wide + 2) + (2 * z.wide + 2) := Nat.succ_mul _ _
      refine .odd (y + 1) ⟨by show z.line + 1 = _; rw [I.line]; omega, I.w1, I.w2, Nat.zero_le _, ?_, by omega, fun h => absurd h (Nat.lt_irrefl _), ?_, ?_, ?_, fun h => absurd h (Nat.lt_irrefl _), fun _ _ => ?_, fun _ _ => ?_⟩
      · show p + 1 = (2 * (y + 1) + 1) * (2 * z.wide + 2) + 0
        omega
      · refine I.seen.step hat (by omega) ?_
        unfold okPart
        rw [if_pos e1]
        exact q
      · refine I.up.cast rfl ?_
        show _ = (y + 1) * (z.wide - 1) + min ((0 - 1) / 2) (z.wide - 1)
        omega
      · refine I.lv.cast rfl ?_
        show _ = (y + 1) * z.wide
        rw [Nat.add_mul, Nat.one_mul]
        omega
      · show z.lev.length = (y + 1 - 1) * z.wide
        exact I.lev
      · show z.full = true ↔ _
        rw [I.full]
        constructor
        · intro h x hx
          have hx : x < z.wide := hx
          exact h x (by omega) hx
        · intro h x _ hx
          exact h x hx
    · rw [if_neg q] at h; cases h
  · rw [if_neg e1] at h
    by_cases e2 : z.col % 2 = 0
    · rw [if_pos e2] at h
      by_cases q : sg B p = 43
      · rw [if_pos q] at h
        cases h
        refine .even y ⟨I.line, I.w1, I.w2, ?_, ?_, hy, ?_, I.up, ?_, I.lev, ?_⟩
        · show z.col + 1 ≤ 2 * z.wide + 1; omega
        · show p + 1 = (2 * y + 2) * (2 * z.wide + 2) + (z.col + 1); omega
        · refine I.seen.step hat (by omega) ?_
          unfold okPart
          rw [if_neg (by omega), if_pos (by omega)]
          exact q
        · refine I.lv.cast rfl ?_
          show _ = y * z.wide + (z.col + 1) / 2
          omega
        · show z.full = true ↔ ∀ x, 2 * x + 1 < z.col + 1 → _
          rw [I.full]
          constructor
          · intro h x h1 hx; exact h x (by omega) hx
          · intro h x h1 hx; exact h x (by omega) hx
      · rw [if_neg q] at h; cases h
    · rw [if_neg e2] at h
      have hxc : 2 * (z.col / 2) + 1 = z.col := by omega
      have hx : z.col / 2 < z.wide := by omega
      by_cases q : sg B p = 45
      · rw [if_pos q] at h
        cases h
        refine .even y ⟨I.line, I.w1, I.w2, ?_, ?_, hy, ?_, I.up, ?_, I.lev, ?_⟩
        · show z.col + 1 ≤ 2 * z.wide + 1; omega
        · show p + 1 = (2 * y + 2) * (2 * z.wide + 2) + (z.col + 1); omega
        · refine I.seen.step hat (by omega) ?_
          unfold okPart
          rw [if_neg (by omega), if_neg (by omega), if_neg (by omega), if_pos (by omega), if_neg (by omega)]
          exact .inl q
        · refine TabOk.cast (I.lv.push (y := y) (x := z.col / 2) (v := true) rfl hx ?_) ?_ ?_
          · unfold fL
            rw [hxc, ← hat, q]
            rfl
          · show _ = z.lev ++ (z.cur ++ [true])
            rw [List.append_assoc]
          · show _ = y * z.wide + (z.col + 1) / 2
            omega
        · show z.full = true ↔ ∀ x, 2 * x + 1 < z.col + 1 → _
          rw [I.full]
          constructor
          · intro h x h1 hx
            by_cases ex : 2 * x + 1 = z.col
            · show sg B ((2 * y + 2) * (2 * z.wide + 2) + (2 * x + 1)) = 45
              rw [ex, ← hat]; exact q
            · exact h x (by omega) hx
          · intro h x h1 hx; exact h x (by omega) hx
      · rw [if_neg q] at h
        by_cases q2 : sg B p = 32 ∧ y + 1 < 10
        · rw [if_pos q2] at h
          cases h
          refine .even y ⟨I.line, I.w1, I.w2, ?_, ?_, hy, ?_, I.up, ?_, I.lev, ?_⟩
          · show z.col + 1 ≤ 2 * z.wide + 1; omega
          · show p + 1 = (2 * y + 2) * (2 * z.wide + 2) + (z.col + 1); omega
          · refine I.seen.step hat (by omega) ?_
            unfold okPart
            rw [if_neg (by omega), if_neg (by omega), if_neg (by omega), if_pos (by omega), if_neg (by omega)]
            exact .inr q2.1
          · refine TabOk.cast (I.lv.push (y := y) (x := z.col / 2) (v := false) rfl hx ?_) ?_ ?_
            · unfold fL
              rw [hxc, ← hat, q2.1]
              rfl
            · show _ = z.lev ++ (z.cur ++ [false])
              rw [List.append_assoc]
            · show _ = y * z.wide + (z.col + 1) / 2
              omega
          · show false = true ↔ ∀ x, 2 * x + 1 < z.col + 1 → x < z.wide → sg B ((2 * y + 2) * (2 * z.wide + 2) + (2 * x + 1)) = 45
            constructor
            · intro h; cases h
            · intro h
              have := h (z.col / 2) (by omega) hx
              rw [hxc, ← hat] at this
              exact absurd this q
        · rw [if_neg q2] at h; cases h
theorem SInv.step {B : Bytes} {p : Nat} {z z' : Scan} (I : SInv B p z) (h : z.sign (sg B p) = some z') : SInv B (p + 1) z' := by
  cases I with
  | first I => exact I.step h
  | odd y I => exact I.step h
  | even y I => exact I.step h
theorem SInv.begun (B : Bytes) : SInv B 0 scanBegun := .first ⟨rfl, rfl, rfl, rfl, rfl, rfl, by omega, fun i h => absurd h (Nat.not_lt_zero _)⟩
end Hw
end
section
set_option Elab.async false
namespace Hw
open Maze
theorem drop_cons {B : Bytes} {p : Nat} {c : UInt8} {r : Bytes} (h : c :: r = B.drop p) : p < B.length ∧ c = sg B p ∧ r = B.drop (p + 1) := by
  have lt : p < B.length := by
    rcases Nat.lt_or_ge p B.length with z | z
    · exact z
    · rw [List.drop_eq_nil_of_le z] at h; cases h
  rw [List.drop_eq_getElem_cons lt] at h
  injection h with h1 h2
  refine ⟨lt, ?_, h2⟩
  unfold sg
  rw [List.getD_eq_getElem?_getD, List.getElem?_eq_getElem lt]
  exact h1
theorem scan_run {B : Bytes} {D : Garden} : ∀ (r : Bytes) (p : Nat) (z : Scan), SInv B p z → r = B.drop p → p ≤ B.length → scanFrom p z r = .ok D → ∃ z', SInv B B.length z' ∧ z'.ends = some D
  | [], p, z, I, hr, hp, h => by
    have hpl : p = B.length := by
      have := congrArg List.length hr
      rw [List.length_drop, List.length_nil] at this
      omega
    subst hpl
    unfold scanFrom at h
    cases e : z.ends with
    | none => rw [e] at h; cases h
    | some D' => rw [e] at h; cases h; exact ⟨z, I, e⟩
  | c :: r, p, z, I, hr, hp, h => by
    obtain ⟨lt, e1, e2⟩ := drop_cons hr
    unfold scanFrom at h
    cases e : z.sign c with
    | none => rw [e] at h; cases h
    | some y =>
      rw [e] at h
      rw [e1] at e
      exact scan_run r (p + 1) y (I.step e) e2 lt h
theorem Fits.first_end {B : Bytes} {w h : Nat} (F : Fits B w h) : sg B (2 * w + 1) = 10 := by
  have := F.ok 0 (2 * w + 1) (by omega) (by omega)
  rw [Nat.zero_mul, Nat.zero_add] at this
  unfold okSign at this
  rw [if_pos rfl] at this
  exact this
theorem Fits.first_in {B : Bytes} {w h i : Nat} (F : Fits B w h) (hi : i < 2 * w + 1) : (i % 2 = 0 → sg B i = 43) ∧ (i % 2 = 1 → sg B i = 45) := by
  have := F.ok 0 i (by omega) (by omega)
  rw [Nat.zero_mul, Nat.zero_add] at this
  unfold okSign at this
  rw [if_neg (by omega)] at this
  by_cases e : i % 2 = 0
  · rw [if_pos ⟨rfl, e⟩] at this
    exact ⟨fun _ => this, fun z => by omega⟩
  · rw [if_neg (by omega), if_neg (by omega), if_pos rfl, if_pos (.inl rfl)] at this
    exact ⟨fun z => absurd z e, fun _ => this⟩
theorem Fits.big {B : Bytes} {w h : Nat} (F : Fits B w h) : 2 * w + 1 < B.length := by
  rw [F.len]
  have : 1 * (2 * w + 2) ≤ (2 * h + 1) * (2 * w + 2) := Nat.mul_le_mul_right _ (by omega)
  omega
theorem Seen.wide {B : Bytes} {w h v p : Nat} (F : Fits B w h) (S : Seen B v p) (hp : 2 * v + 2 ≤ p) : v = w := by
  have h1 := S 0 (2 * v + 1) (by omega) (by omega)
  rw [Nat.zero_mul, Nat.zero_add] at h1
  unfold okPart at h1
  rw [if_pos rfl] at h1
  rcases Nat.lt_trichotomy v w with e | e | e
  · exfalso
    have := (F.first_in (i := 2 * v + 1) (by omega)).2 (by omega)
    rw [h1] at this
    exact absurd this (by decide)
  · exact e
  · exfalso
    have h2 := S 0 (2 * w + 1) (by omega) (by omega)
    rw [Nat.zero_mul, Nat.zero_add] at h2
    unfold okPart at h2
    rw [if_neg (by omega), if_neg (by omega), if_neg (by omega), if_pos rfl, if_pos rfl, F.first_end] at h2
    exact absurd h2 (by decide)
theorem SFirst.short {B : Bytes} {w h p : Nat} {z : Scan} (F : Fits B w h) (I : SFirst B p z) : p < 2 * w + 2 := by
  rcases Nat.lt_or_ge p (2 * w + 2) with e | e
  · exact e
  · exfalso
    have := (I.seen (2 * w + 1) (by omega)).2 (by omega)
    rw [F.first_end] at this
    exact absurd this (by decide)
theorem line_pos {a b : Nat} (h : 0 < a) : b ≤ a * b := by
  have : 1 * b ≤ a * b := Nat.mul_le_mul_right _ h
  omega
theorem SInv.go {B : Bytes} {w h p : Nat} {z : Scan} (F : Fits B w h) (I : SInv B p z) (hp : p < B.length) : ∃ y, z.sign (sg B p) = some y := by
  have hw1 := F.w1
  have hw2 := F.w2
  have hh1 := F.h1
  have hh2 := F.h2
  cases I with
  | first I =>
    have hs := I.short F
    rw [sign_first I.line, I.col]
    by_cases e1 : p = 2 * w + 1
    · rw [if_neg (by omega)]
      have e2 := F.first_end
      rw [← e1] at e2
      rw [e2, if_neg (by intro q; exact absurd q.1 (by decide)), if_pos ⟨rfl, by omega⟩]
      exact ⟨_, rfl⟩
    · have := F.first_in (i := p) (by omega)
      by_cases e : p % 2 = 0
      · rw [if_pos e, if_pos (this.1 e)]
        exact ⟨_, rfl⟩
      · rw [if_neg e, if_pos ⟨this.2 (by omega), by show p / 2 < 10; omega⟩]
        exact ⟨_, rfl⟩
  | odd y I =>
    have hat := I.at_
    have hcl := I.col
    have e : z.wide = w := I.seen.wide F (by have := line_pos (a := 2 * y + 1) (b := 2 * z.wide + 2) (by omega); omega)
    rw [e] at hat hcl
    have hl : 2 * y + 1 < 2 * h + 1 := by
      rw [F.len, hat] at hp
      exact Nat.lt_of_mul_lt_mul_right (a := 2 * w + 2) (by omega)
    have ok := F.ok (2 * y + 1) z.col hl (by omega)
    rw [← hat] at ok
    unfold okSign at ok
    rw [sign_odd I.line, e]
    by_cases e0 : z.col = 0
    · rw [if_neg (by omega), if_neg (by omega), if_neg (by omega), if_neg (by omega), if_pos (.inl e0)] at ok
      rw [if_pos e0, if_pos ⟨ok, by omega⟩]
      exact ⟨_, rfl⟩
    · rw [if_neg e0]
      by_cases e1 : z.col = 2 * w + 1
      · rw [if_pos e1] at ok
        rw [if_pos e1, if_pos ok]
        exact ⟨_, rfl⟩
      · rw [if_neg e1, if_neg (by omega)] at ok
        rw [if_neg e1]
        by_cases e2 : z.col % 2 = 1
        · rw [if_pos ⟨by omega, e2⟩] at ok
          rw [if_pos e2, if_pos ok]
          exact ⟨_, rfl⟩
        · rw [if_neg (by omega), if_neg (by omega)] at ok
          rw [if_neg e2]
          by_cases e3 : z.col = 2 * w
          · rw [if_pos (.inr e3)] at ok
            rw [if_pos e3, if_pos ok]
            exact ⟨_, rfl⟩
          · rw [if_neg (by omega)] at ok
            rw [if_neg e3, if_pos ok]
            exact ⟨_, rfl⟩
  | even y I =>
    have hat := I.at_
    have hcl := I.col
    have e : z.wide = w := I.seen.wide F (by have := line_pos (a := 2 * y + 2) (b := 2 * z.wide + 2) (by omega); omega)
    rw [e] at hat hcl
    have hl : 2 * y + 2 < 2 * h + 1 := by
      rw [F.len, hat] at hp
      exact Nat.lt_of_mul_lt_mul_right (a := 2 * w + 2) (by omega)
    have ok := F.ok (2 * y + 2) z.col hl (by omega)
    rw [← hat] at ok
    unfold okSign at ok
    rw [sign_even I.line, e]
    by_cases e1 : z.col = 2 * w + 1
    · rw [if_pos e1] at ok
      rw [if_pos e1, if_pos ok]
      exact ⟨_, rfl⟩
    · rw [if_neg e1] at ok ⊢
      by_cases e2 : z.col % 2 = 0
      · rw [if_pos ⟨by omega, e2⟩] at ok
        rw [if_pos e2, if_pos ok]
        exact ⟨_, rfl⟩
      · rw [if_neg (by omega), if_neg (by omega), if_pos (by omega)] at ok
        rw [if_neg e2]
        by_cases q : sg B p = 45
        · rw [if_pos q]; exact ⟨_, rfl⟩
        · rw [if_neg q]
          by_cases e3 : 2 * y + 2 = 2 * h
          · rw [if_pos (.inr e3)] at ok
            exact absurd ok q
          · rw [if_neg (by omega)] at ok
            rcases ok with ok | ok
            · exact absurd ok q
            · rw [if_pos ⟨ok, by omega⟩]; exact ⟨_, rfl⟩
theorem SInv.end_ {B : Bytes} {w h : Nat} {z : Scan} (F : Fits B w h) (I : SInv B B.length z) : ∃ D, z.ends = some D := by
  have hb := F.big
  have hh1 := F.h1
  cases I with
  | first I => have := I.short F; omega
  | odd y I =>
    have hat := I.at_
    have hcl := I.col
    have e : z.wide = w := I.seen.wide F (by have := line_pos (a := 2 * y + 1) (b := 2 * z.wide + 2) (by omega); omega)
    rw [F.len, e] at hat
    obtain ⟨e1, e2⟩ := rc_inj (y := 2 * h + 1) (x := 0) (b := 2 * w + 2) (y' := 2 * y + 1) (x' := z.col) (by omega) (by omega) hat
    have hy : y = h := by omega
    subst hy
    have hf := (I.full e2.symm (by omega)).mpr fun x hx => by
      have ok := F.ok (2 * y) (2 * x + 1) (by omega) (by omega)
      unfold okSign at ok
      rw [if_neg (by omega), if_neg (by omega), if_neg (by omega), if_pos (by omega), if_pos (.inr rfl)] at ok
      rw [e]
      exact ok
    have hl := I.line
    refine ⟨_, if_pos ⟨e2.symm, by omega, by omega, hf⟩⟩
  | even y I =>
    exfalso
    have hat := I.at_
    have hcl := I.col
    have e : z.wide = w := I.seen.wide F (by have := line_pos (a := 2 * y + 2) (b := 2 * z.wide + 2) (by omega); omega)
    rw [F.len, e] at hat
    obtain ⟨e1, e2⟩ := rc_inj (y := 2 * h + 1) (x := 0) (b := 2 * w + 2) (y' := 2 * y + 2) (x' := z.col) (by omega) (by omega) hat
    omega
theorem scan_fits {B : Bytes} {w h : Nat} (F : Fits B w h) : ∀ (r : Bytes) (p : Nat) (z : Scan), SInv B p z → r = B.drop p → p ≤ B.length → ∃ D, scanFrom p z r = .ok D
  | [], p, z, I, hr, hp => by
    have hpl : p = B.length := by
      have := congrArg List.length hr
      rw [List.length_drop, List.length_nil] at this
      omega
    subst hpl
    obtain ⟨D, e⟩ := I.end_ F
    exact ⟨D, by unfold scanFrom; rw [e]⟩
  | c :: r, p, z, I, hr, hp => by
    obtain ⟨lt, e1, e2⟩ := drop_cons hr
    obtain ⟨y, e⟩ := I.go F lt
    obtain ⟨D, h⟩ := scan_fits F r (p + 1) y (I.step e) e2 lt
    refine ⟨D, ?_⟩
    unfold scanFrom
    rw [e1, e]
    exact h
theorem read_fits {B : Bytes} {w h : Nat} (F : Fits B w h) : ∃ D, readDrawing B = .ok D := scan_fits F B 0 scanBegun (SInv.begun B) rfl (Nat.zero_le _)
structure Drawn (B : Bytes) (D : Garden) : Prop where
  fits : Fits B D.wide D.high
  up : ∀ y x, y < D.high → x < D.wide - 1 → D.hedge (y * (D.wide - 1) + x) = fU B D.wide y x
  lv : ∀ y x, y < D.high - 1 → x < D.wide → D.hedge (D.uprights + (y * D.wide + x)) = fL B D.wide y x
theorem ends_drawn {B : Bytes} {z : Scan} {D : Garden} (I : SInv B B.length z) (h : z.ends = some D) : Drawn B D := by
  unfold Scan.ends at h
  by_cases q : z.col = 0 ∧ z.line % 2 = 1 ∧ 3 ≤ z.line ∧ z.full = true
  · rw [if_pos q] at h
    obtain ⟨q1, q2, q3, q4⟩ := q
    cases I with
    | first I => have := I.line; omega
    | even y I => have := I.line; omega
    | odd y I =>
      have hl := I.line
      have hy : z.line / 2 = y := by omega
      rw [hy] at h
      have hd : D = ⟨z.wide, y, z.up ++ z.lev⟩ := (Option.some.inj h).symm
      have y0 : 0 < y := by omega
      have hf := (I.full q1 y0).mp q4
      have hat := I.at_
      rw [q1] at hat
      have upl : z.up.length = y * (z.wide - 1) := by
        have := I.up.1
        rw [q1] at this
        omega
      have lvl := I.lev q1 y0
      rw [hd]
      refine ⟨⟨I.w1, I.w2, y0, I.y10, hat, fun l c hlt hc => ?_⟩, fun y' x hy' hx => ?_, fun y' x hy' hx => ?_⟩
      · have := I.seen l c hc (by
          show l * (2 * z.wide + 2) + c < B.length
          rw [hat]
          exact rc_lt (a := 2 * y + 1) hlt hc)
        show okSign z.wide y l c (sg B (l * (2 * z.wide + 2) + c))
        unfold okPart at this
        unfold okSign
        by_cases e1 : c = 2 * z.wide + 1
        · rw [if_pos e1] at this ⊢; exact this
        · rw [if_neg e1] at this ⊢
          by_cases e2 : l % 2 = 0 ∧ c % 2 = 0
          · rw [if_pos e2] at this ⊢; exact this
          · rw [if_neg e2] at this ⊢
            by_cases e3 : l % 2 = 1 ∧ c % 2 = 1
            · rw [if_pos e3] at this ⊢; exact this
            · rw [if_neg e3] at this ⊢
              by_cases e4 : l % 2 = 0
              · rw [if_pos e4] at this ⊢
                by_cases e5 : l = 0
                · rw [if_pos e5] at this
                  rw [if_pos (.inl e5)]; exact this
                · rw [if_neg e5] at this
                  by_cases e6 : l = 2 * y
                  · rw [if_pos (.inr e6)]
                    have hc2 : c = 2 * (c / 2) + 1 := by omega
                    have hc' : c < 2 * z.wide + 2 := hc
                    rw [e6, hc2]
                    exact hf (c / 2) (by omega)
                  · rw [if_neg (by omega)]; exact this
              · rw [if_neg e4] at this ⊢; exact this
      · show (z.up ++ z.lev).getD (y' * (z.wide - 1) + x) true = _
        have lt : y' * (z.wide - 1) + x < y * (z.wide - 1) := rc_lt hy' hx
        rw [List.getD_eq_getElem?_getD, List.getElem?_append_left (by omega), ← List.getD_eq_getElem?_getD]
        exact I.up.2 y' x hx (by omega)
      · show (z.up ++ z.lev).getD ((z.wide - 1) * y + (y' * z.wide + x)) true = fL B z.wide y' x
        have hy' : y' < y - 1 := hy'
        have hx : x < z.wide := hx
        have lt : y' * z.wide + x < (y - 1) * z.wide := rc_lt hy' hx
        have lt2 : (y - 1) * z.wide ≤ y * z.wide := Nat.mul_le_mul_right _ (by omega)
        rw [Nat.mul_comm (z.wide - 1), ← upl, List.getD_eq_getElem?_getD, List.getElem?_append_right (by omega), Nat.add_sub_cancel_left]
        have := I.lv.2 y' x hx (by omega)
        rw [List.getD_eq_getElem?_getD, List.getElem?_append_left (by omega)] at this
        exact this
  · rw [if_neg q] at h; cases h
theorem read_drawn {B : Bytes} {D : Garden} (h : readDrawing B = .ok D) : Drawn B D := by
  obtain ⟨z, I, e⟩ := scan_run B 0 scanBegun (SInv.begun B) rfl (Nat.zero_le _) h
  exact ends_drawn I e
theorem Fits.uniq {B : Bytes} {w h v k : Nat} (F : Fits B w h) (G : Fits B v k) : w = v ∧ h = k := by
  have e : w = v := by
    rcases Nat.lt_trichotomy w v with e | e | e
    · exfalso
      have := (G.first_in (i := 2 * w + 1) (by omega)).2 (by omega)
      rw [F.first_end] at this
      exact absurd this (by decide)
    · exact e
    · exfalso
      have := (F.first_in (i := 2 * v + 1) (by omega)).2 (by omega)
      rw [G.first_end] at this
      exact absurd this (by decide)
  subst e
  have := F.len.symm.trans G.len
  have := Nat.eq_of_mul_eq_mul_right (by omega) this
  exact ⟨rfl, by omega⟩
end Hw
end
section
set_option Elab.async false
namespace Hw
open Maze
/-! ### The program's bytes -/
def Bytes01 (ns : List Int) : Prop := ∀ v ∈ ns, 0 ≤ v ∧ v ≤ 255
def txt (ns : List Int) : Bytes := WayNeutral.text ns
theorem txt_length (ns : List Int) : (txt ns).length = ns.length := by unfold txt WayNeutral.text; rw [List.length_map]
theorem sg_txt {ns : List Int} {i : Nat} {v : Int} (h : ns[i]? = some v) : sg (txt ns) i = UInt8.ofNat v.toNat := by
  unfold sg txt WayNeutral.text
  rw [List.getD_eq_getElem?_getD, List.getElem?_map, h]
  rfl
theorem byte_eq {v : Int} (h0 : 0 ≤ v) (h1 : v ≤ 255) {k : Nat} (hk : k < 256) : UInt8.ofNat v.toNat = UInt8.ofNat k ↔ v = (k : Int) := by
  constructor
  · intro e
    have := congrArg UInt8.toNat e
    rw [UInt8.toNat_ofNat', UInt8.toNat_ofNat'] at this
    omega
  · intro e
    rw [e]
    rfl
theorem b10 {v : Int} (h : 0 ≤ v ∧ v ≤ 255) : UInt8.ofNat v.toNat = 10 ↔ v = 10 := byte_eq (k := 10) h.1 h.2 (by decide)
theorem b32 {v : Int} (h : 0 ≤ v ∧ v ≤ 255) : UInt8.ofNat v.toNat = 32 ↔ v = 32 := byte_eq (k := 32) h.1 h.2 (by decide)
theorem b43 {v : Int} (h : 0 ≤ v ∧ v ≤ 255) : UInt8.ofNat v.toNat = 43 ↔ v = 43 := byte_eq (k := 43) h.1 h.2 (by decide)
theorem b45 {v : Int} (h : 0 ≤ v ∧ v ≤ 255) : UInt8.ofNat v.toNat = 45 ↔ v = 45 := byte_eq (k := 45) h.1 h.2 (by decide)
theorem b124 {v : Int} (h : 0 ≤ v ∧ v ≤ 255) : UInt8.ofNat v.toNat = 124 ↔ v = 124 := byte_eq (k := 124) h.1 h.2 (by decide)
/-! ### The width, the height -/
def wTest (ns : List Int) (i : Nat) : Bool := decide (2 * (i + 1) + 1 < ns.length) && decide (ns.getD (2 * (i + 1) + 1) 0 = 10)
def widthOf (ns : List Int) : Nat := match (List.range 10).find? (wTest ns) with
  | some i => i + 1
  | none => 0
def hTest (ns : List Int) (w i : Nat) : Bool := decide (ns.length = (2 * (i + 1) + 1) * (2 * w + 2))
def heightOf (ns : List Int) (w : Nat) : Nat := match (List.range 10).find? (hTest ns w) with
  | some i => i + 1
  | none => 0
theorem find_some {p : Nat → Bool} {n i : Nat} (h : i < n) (hp : p i = true) (hb : ∀ j, j < i → p j = false) : (List.range n).find? p = some i := by
  rw [List.find?_range_eq_some]
  exact ⟨hp, List.mem_range.mpr h, fun j hj => by rw [hb j hj]; rfl⟩
theorem find_none {p : Nat → Bool} {n : Nat} (hb : ∀ j, j < n → p j = false) : (List.range n).find? p = none := by
  rw [List.find?_eq_none]
  intro j hj
  rw [hb j (List.mem_range.mp hj)]
  exact Bool.false_ne_true
theorem width_hit {ns : List Int} {i : Nat} (h : i < 10) (hp : wTest ns i = true) (hb : ∀ j, j < i → wTest ns j = false) : widthOf ns = i + 1 := by
  unfold widthOf; rw [find_some h hp hb]
theorem width_miss {ns : List Int} (hb : ∀ j, j < 10 → wTest ns j = false) : widthOf ns = 0 := by
  unfold widthOf; rw [find_none hb]
theorem height_hit {ns : List Int} {w i : Nat} (h : i < 10) (hp : hTest ns w i = true) (hb : ∀ j, j < i → hTest ns w j = false) : heightOf ns w = i + 1 := by
  unfold heightOf; rw [find_some h hp hb]
theorem height_miss {ns : List Int} {w : Nat} (hb : ∀ j, j < 10 → hTest ns w j = false) : heightOf ns w = 0 := by
  unfold heightOf; rw [find_none hb]
theorem width_le (ns : List Int) : widthOf ns ≤ 10 := by
  unfold widthOf
  cases e : (List.range 10).find? (wTest ns) with
  | none => exact Nat.zero_le _
  | some i =>
    have := List.mem_range.mp (List.mem_of_find?_eq_some e)
    show i + 1 ≤ 10
    omega
theorem height_is {ns : List Int} {w : Nat} (h : heightOf ns w ≠ 0) : heightOf ns w ≤ 10 ∧ ns.length = (2 * heightOf ns w + 1) * (2 * w + 2) := by
  unfold heightOf at h ⊢
  cases e : (List.range 10).find? (hTest ns w) with
  | none => rw [e] at h; exact absurd rfl h
  | some i =>
    have h1 := List.mem_range.mp (List.mem_of_find?_eq_some e)
    have h2 := List.find?_some e
    exact ⟨by show i + 1 ≤ 10; omega, of_decide_eq_true h2⟩
theorem getD_at {ns : List Int} {i : Nat} (h : i < ns.length) : ns[i]? = some (ns.getD i 0) := by
  rw [List.getD_eq_getElem?_getD, List.getElem?_eq_getElem h]
  rfl
theorem mem_at {ns : List Int} (hb : Bytes01 ns) {i : Nat} {v : Int} (h : ns[i]? = some v) : 0 ≤ v ∧ v ≤ 255 := hb v (List.mem_of_getElem? h)
theorem Fits.width {ns : List Int} (hb : Bytes01 ns) {w h : Nat} (F : Fits (txt ns) w h) : widthOf ns = w := by
  have hw1 := F.w1
  have hw2 := F.w2
  have big := F.big
  rw [txt_length] at big
  obtain ⟨i, rfl⟩ : ∃ i, w = i + 1 := ⟨w - 1, by omega⟩
  refine width_hit (by omega) ?_ fun j hj => ?_
  · unfold wTest
    rw [Bool.and_eq_true]
    refine ⟨decide_eq_true big, decide_eq_true ?_⟩
    have e := getD_at big
    have := F.first_end
    rw [sg_txt e] at this
    exact (b10 (mem_at hb e)).mp this
  · unfold wTest
    rw [Bool.and_eq_false_iff]
    right
    refine decide_eq_false fun q => ?_
    have lt : 2 * (j + 1) + 1 < ns.length := by omega
    have e := getD_at lt
    have := (F.first_in (i := 2 * (j + 1) + 1) (by omega)).2 (by omega)
    rw [sg_txt e, q] at this
    exact absurd this (by decide)
theorem Fits.height {ns : List Int} {w h : Nat} (F : Fits (txt ns) w h) : heightOf ns w = h := by
  have hh1 := F.h1
  have hh2 := F.h2
  have len := F.len
  rw [txt_length] at len
  obtain ⟨i, rfl⟩ : ∃ i, h = i + 1 := ⟨h - 1, by omega⟩
  refine height_hit (by omega) (decide_eq_true len) fun j hj => decide_eq_false fun q => ?_
  have := Nat.eq_of_mul_eq_mul_right (by omega) (len.symm.trans q)
  omega
/-! ### The signs that fit -/
def sideSigns (hedge : Int) (place last : Nat) : List Int := if place = 0 ∨ place = last then [hedge] else [hedge, 32]
def fitSigns (w h c l : Nat) : List Int :=
  if c = 2 * w + 1 then [10]
  else if l % 2 = 0 ∧ c % 2 = 0 then [43]
  else if l % 2 = 1 ∧ c % 2 = 1 then [32]
  else if l % 2 = 0 then sideSigns 45 l (2 * h)
  else sideSigns 124 c (2 * w)
theorem fit_iff {w h c l : Nat} {v : Int} (hv : 0 ≤ v ∧ v ≤ 255) : v ∈ fitSigns w h c l ↔ okSign w h l c (UInt8.ofNat v.toNat) := by
  unfold fitSigns okSign sideSigns
  by_cases e1 : c = 2 * w + 1
  · rw [if_pos e1, if_pos e1, b10 hv, List.mem_singleton]
  · rw [if_neg e1, if_neg e1]
    by_cases e2 : l % 2 = 0 ∧ c % 2 = 0
    · rw [if_pos e2, if_pos e2, b43 hv, List.mem_singleton]
    · rw [if_neg e2, if_neg e2]
      by_cases e3 : l % 2 = 1 ∧ c % 2 = 1
      · rw [if_pos e3, if_pos e3, b32 hv, List.mem_singleton]
      · rw [if_neg e3, if_neg e3]
        by_cases e4 : l % 2 = 0
        · rw [if_pos e4, if_pos e4]
          by_cases e5 : l = 0 ∨ l = 2 * h
          · rw [if_pos e5, if_pos e5, b45 hv, List.mem_singleton]
          · rw [if_neg e5, if_neg e5, b45 hv, b32 hv, List.mem_cons, List.mem_singleton]
        · rw [if_neg e4, if_neg e4]
          by_cases e5 : c = 0 ∨ c = 2 * w
          · rw [if_pos e5, if_pos e5, b124 hv, List.mem_singleton]
          · rw [if_neg e5, if_neg e5, b124 hv, b32 hv, List.mem_cons, List.mem_singleton]
def AllFit (ns : List Int) (w h : Nat) : Prop := ∀ l c, l < 2 * h + 1 → c < 2 * w + 2 → ns.getD (l * (2 * w + 2) + c) 0 ∈ fitSigns w h c l
theorem allFit_fits {ns : List Int} (hb : Bytes01 ns) {w h : Nat} (w1 : 1 ≤ w) (w2 : w ≤ 10) (h1 : 1 ≤ h) (h2 : h ≤ 10) (len : ns.length = (2 * h + 1) * (2 * w + 2)) : AllFit ns w h ↔ Fits (txt ns) w h := by
  have key : ∀ l c, l < 2 * h + 1 → c < 2 * w + 2 → (ns.getD (l * (2 * w + 2) + c) 0 ∈ fitSigns w h c l ↔ okSign w h l c (sg (txt ns) (l * (2 * w + 2) + c))) := fun l c hl hc => by
    have e := getD_at (ns := ns) (i := l * (2 * w + 2) + c) (by rw [len]; exact rc_lt hl hc)
    rw [sg_txt e]
    exact fit_iff (mem_at hb e)
  constructor
  · intro h
    exact ⟨w1, w2, h1, h2, by rw [txt_length]; exact len, fun l c hl hc => (key l c hl hc).mp (h l c hl hc)⟩
  · intro F l c hl hc
    exact (key l c hl hc).mpr (F.ok l c hl hc)
/-- whether the bytes are a drawing, as the program asks it -/
theorem drawing_iff {ns : List Int} (hb : Bytes01 ns) : (∃ D, readDrawing (txt ns) = .ok D) ↔ widthOf ns ≠ 0 ∧ heightOf ns (widthOf ns) ≠ 0 ∧ AllFit ns (widthOf ns) (heightOf ns (widthOf ns)) := by
  constructor
  · rintro ⟨D, h⟩
    have F := (read_drawn h).fits
    rw [F.width hb, F.height]
    have := F.w1
    have := F.h1
    refine ⟨by omega, by omega, (allFit_fits hb F.w1 F.w2 F.h1 F.h2 (by rw [← txt_length]; exact F.len)).mpr F⟩
  · rintro ⟨h1, h2, h3⟩
    have := height_is h2
    exact read_fits ((allFit_fits hb (by omega) (width_le ns) (by omega) this.1 this.2).mp h3)
/-! ### A garden drawn by the bytes -/
structure Pic (ns : List Int) (D : Garden) : Prop where
  bytes : Bytes01 ns
  read : readDrawing (txt ns) = .ok D
theorem Pic.drawn {ns : List Int} {D : Garden} (P : Pic ns D) : Drawn (txt ns) D := read_drawn P.read
theorem Pic.w1 {ns : List Int} {D : Garden} (P : Pic ns D) : 1 ≤ D.wide := P.drawn.fits.w1
theorem Pic.w2 {ns : List Int} {D : Garden} (P : Pic ns D) : D.wide ≤ 10 := P.drawn.fits.w2
theorem Pic.h1 {ns : List Int} {D : Garden} (P : Pic ns D) : 1 ≤ D.high := P.drawn.fits.h1
theorem Pic.h2 {ns : List Int} {D : Garden} (P : Pic ns D) : D.high ≤ 10 := P.drawn.fits.h2
theorem Pic.len {ns : List Int} {D : Garden} (P : Pic ns D) : ns.length = (2 * D.high + 1) * (2 * D.wide + 2) := by rw [← txt_length]; exact P.drawn.fits.len
theorem Pic.width {ns : List Int} {D : Garden} (P : Pic ns D) : widthOf ns = D.wide := P.drawn.fits.width P.bytes
theorem Pic.height {ns : List Int} {D : Garden} (P : Pic ns D) : heightOf ns D.wide = D.high := P.drawn.fits.height
theorem Pic.squares {ns : List Int} {D : Garden} (P : Pic ns D) : D.squares ≤ 100 := by
  unfold Garden.squares
  have := Nat.mul_le_mul P.w2 P.h2
  omega
theorem Pic.at_ {ns : List Int} {D : Garden} (P : Pic ns D) {l c : Nat} (hl : l < 2 * D.high + 1) (hc : c < 2 * D.wide + 2) : ∃ v, ns[l * (2 * D.wide + 2) + c]? = some v := by
  refine ⟨_, List.getElem?_eq_getElem ?_⟩
  rw [P.len]
  exact rc_lt hl hc
theorem Pic.up {ns : List Int} {D : Garden} (P : Pic ns D) {x y : Nat} (hy : y < D.high) (hx : x < D.wide - 1) {v : Int} (h : ns[(2 * y + 1) * (2 * D.wide + 2) + (2 * x + 2)]? = some v) : decide (v = 32) = !D.hedge (y * (D.wide - 1) + x) := by
  have hv := mem_at P.bytes h
  rw [P.drawn.up y x hy hx]
  unfold fU
  have ok := P.drawn.fits.ok (2 * y + 1) (2 * x + 2) (by omega) (by omega)
  unfold okSign at ok
  rw [if_neg (by omega), if_neg (by omega), if_neg (by omega), if_neg (by omega), if_neg (by omega), sg_txt h, b124 hv, b32 hv] at ok
  rw [sg_txt h]
  have e : (UInt8.ofNat v.toNat == 124) = decide (v = 124) := by
    rw [Bool.beq_eq_decide_eq]
    exact decide_eq_decide.mpr (b124 hv)
  rw [e]
  rcases ok with rfl | rfl <;> rfl
theorem Pic.lv {ns : List Int} {D : Garden} (P : Pic ns D) {x y : Nat} (hy : y < D.high - 1) (hx : x < D.wide) {v : Int} (h : ns[(2 * y + 2) * (2 * D.wide + 2) + (2 * x + 1)]? = some v) : decide (v = 32) = !D.hedge (D.uprights + (y * D.wide + x)) := by
  have hv := mem_at P.bytes h
  rw [P.drawn.lv y x hy hx]
  unfold fL
  have ok := P.drawn.fits.ok (2 * y + 2) (2 * x + 1) (by omega) (by omega)
  unfold okSign at ok
  rw [if_neg (by omega), if_neg (by omega), if_neg (by omega), if_pos (by omega), if_neg (by omega), sg_txt h, b45 hv, b32 hv] at ok
  rw [sg_txt h]
  have e : (UInt8.ofNat v.toNat == 45) = decide (v = 45) := by
    rw [Bool.beq_eq_decide_eq]
    exact decide_eq_decide.mpr (b45 hv)
  rw [e]
  rcases ok with rfl | rfl <;> rfl
/-! ### What is due -/
def refI (ns : List Int) : Int := if 1024 < ns.length then -2 else match readDrawing (txt ns) with
  | .error _ => -6
  | .ok _ => 0
theorem ofGarden_far {t : Bytes} {f : Garden → Ans} (h : 1024 < t.length) : ofGarden t f = says (-2) := by
  unfold ofGarden LOOKED; rw [if_pos h]
theorem ofGarden_bad {t : Bytes} {f : Garden → Ans} (h : ¬ 1024 < t.length) {p : Nat} (e : readDrawing t = .error p) : ofGarden t f = says (-6) := by
  unfold ofGarden LOOKED; rw [if_neg h, e]
theorem ofGarden_ok {t : Bytes} {f : Garden → Ans} (h : ¬ 1024 < t.length) {D : Garden} (e : readDrawing t = .ok D) : ofGarden t f = f D := by
  unfold ofGarden LOOKED; rw [if_neg h, e]
theorem ref_cases (ns : List Int) : (refI ns = -2 ∧ 1024 < ns.length) ∨ (refI ns = -6 ∧ ¬ 1024 < ns.length ∧ ∃ p, readDrawing (txt ns) = .error p) ∨ (refI ns = 0 ∧ ¬ 1024 < ns.length ∧ ∃ D, readDrawing (txt ns) = .ok D) := by
  unfold refI
  by_cases h : 1024 < ns.length
  · exact .inl ⟨if_pos h, h⟩
  · rw [if_neg h]
    cases e : readDrawing (txt ns) with
    | error p => exact .inr (.inl ⟨rfl, h, p, rfl⟩)
    | ok D => exact .inr (.inr ⟨rfl, h, D, rfl⟩)
theorem due_rooms (ns : List Int) : PyWqbacn.rooms ns = (MazeB.answer (.rooms (txt ns))).code :: (MazeB.answer (.rooms (txt ns))).nums.map fun (n : Nat) => (n : Int) := rfl
theorem due_room (s : Int) (ns : List Int) : PyWqbacn.room s ns = (MazeB.answer (.room (txt ns) s.toNat)).code :: (MazeB.answer (.room (txt ns) s.toNat)).nums.map fun (n : Nat) => (n : Int) := rfl
theorem rooms_refused {ns : List Int} (h : refI ns ≠ 0) : PyWqbacn.rooms ns = [refI ns] := by
  rw [due_rooms]
  unfold MazeB.answer
  rcases ref_cases ns with ⟨e, q⟩ | ⟨e, q, p, r⟩ | ⟨e, _⟩
  · rw [e]; dsimp only; rw [ofGarden_far (by rw [txt_length]; exact q)]; rfl
  · rw [e]; dsimp only; rw [ofGarden_bad (by rw [txt_length]; exact q) r]; rfl
  · exact absurd e h
theorem rooms_answered {ns : List Int} {D : Garden} (h : refI ns = 0) (P : Pic ns D) : PyWqbacn.rooms ns = [0, (cnt (roomLeast D) D.squares : Int), ((passPairs D).length : Int) + (cnt (roomLeast D) D.squares : Int) - (D.squares : Int), (cnt (leastJoined (corners D) (hedgePairs D)) (corners D) : Int) - 1] := by
  rw [due_rooms]
  unfold MazeB.answer
  rcases ref_cases ns with ⟨e, q⟩ | ⟨e, q, p, r⟩ | ⟨e, q, _⟩
  · rw [e] at h; exact absurd h (by decide)
  · rw [e] at h; exact absurd h (by decide)
  · dsimp only
    rw [ofGarden_ok (by rw [txt_length]; exact q) P.read, ← rings_told, ← islands_int, ← rooms_told]
    rfl
theorem room_refused {ns : List Int} {s : Int} (h : refI ns ≠ 0) : PyWqbacn.room s ns = [refI ns] := by
  rw [due_room]
  unfold MazeB.answer
  rcases ref_cases ns with ⟨e, q⟩ | ⟨e, q, p, r⟩ | ⟨e, _⟩
  · rw [e]; dsimp only; rw [ofGarden_far (by rw [txt_length]; exact q)]; rfl
  · rw [e]; dsimp only; rw [ofGarden_bad (by rw [txt_length]; exact q) r]; rfl
  · exact absurd e h
theorem room_none {ns : List Int} {D : Garden} {s : Nat} (h : refI ns = 0) (P : Pic ns D) (hs : D.squares ≤ s) : PyWqbacn.room (s : Int) ns = [-4] := by
  rw [due_room]
  unfold MazeB.answer
  rcases ref_cases ns with ⟨e, q⟩ | ⟨e, q, p, r⟩ | ⟨e, q, _⟩
  · rw [e] at h; exact absurd h (by decide)
  · rw [e] at h; exact absurd h (by decide)
  · dsimp only
    rw [ofGarden_ok (by rw [txt_length]; exact q) P.read, Int.toNat_natCast, if_pos hs]
    rfl
theorem room_answered {ns : List Int} {D : Garden} {s : Nat} (h : refI ns = 0) (P : Pic ns D) (hs : s < D.squares) : PyWqbacn.room (s : Int) ns = [0, (cnt (roomLeast D) (at0 (roomLeast D) s) : Int)] := by
  rw [due_room]
  unfold MazeB.answer
  rcases ref_cases ns with ⟨e, q⟩ | ⟨e, q, p, r⟩ | ⟨e, q, _⟩
  · rw [e] at h; exact absurd h (by decide)
  · rw [e] at h; exact absurd h (by decide)
  · dsimp only
    rw [ofGarden_ok (by rw [txt_length]; exact q) P.read, Int.toNat_natCast, if_neg (by omega), roomOf_told D hs]
    rfl
end Hw
end
section
set_option Elab.async false
namespace Hw
open Maze
/-! ### Steps both ways, how far at most -/
theorem outs_symm {D : Garden} {s t : Nat} (hs : s < D.squares) (h : t ∈ D.outs s) : s ∈ D.outs t := by
  have ht := outs_lt D s t hs h
  rw [outs_pass ht]
  rcases (outs_pass hs).mp h with h | h
  · exact .inr h
  · exact .inl h
theorem Walk.cons {D : Garden} {s u t n : Nat} (h : u ∈ D.outs s) (w : Walk D u t n) : Walk D s t (n + 1) := by
  induction w with
  | nil => exact .snoc .nil h
  | snoc _ e ih => exact .snoc ih e
theorem Walk.symm {D : Garden} {s t n : Nat} (hs : s < D.squares) (w : Walk D s t n) : Walk D t s n := by
  induction w with
  | nil => exact .nil
  | snoc w e ih => exact Walk.cons (outs_symm (w.lt (outs_lt D) hs) e) ih
theorem IsDist.symm {D : Garden} {s t n : Nat} (hs : s < D.squares) (h : IsDist D s t n) : IsDist D t s n :=
  ⟨h.1.symm hs, fun k hk w => h.2 k hk (w.symm (h.1.lt (outs_lt D) hs))⟩
theorem far_some {D : Garden} {s t n : Nat} (hs : s < D.squares) (ht : t < D.squares) : D.far s t = some n ↔ IsDist D s t n := (fars_spec (outs_lt D) hs).2 t n ht
theorem far_none {D : Garden} {s t : Nat} (hs : s < D.squares) (ht : t < D.squares) : D.far s t = none ↔ ∀ n, ¬ Walk D s t n := by
  constructor
  · intro e n w
    obtain ⟨k, _, d⟩ := w.dist
    rw [(far_some hs ht).mpr d] at e
    cases e
  · intro h
    cases e : D.far s t with
    | none => rfl
    | some n => exact absurd ((far_some hs ht).mp e).1 (h n)
theorem nodup_le : ∀ (n : Nat) (l : List Nat), l.Nodup → (∀ x ∈ l, x < n) → l.length ≤ n
  | 0, l, _, h => by
    cases l with
    | nil => exact Nat.le_refl _
    | cons a l => exact absurd (h a (List.mem_cons_self ..)) (Nat.not_lt_zero _)
  | n + 1, l, nd, h => by
    have h1 := nodup_le n (l.erase n) (nd.erase n) (fun x hx => by
      have h2 := (List.Nodup.mem_erase_iff nd).mp hx
      have := h x h2.2
      omega)
    have h3 := List.length_erase (l := l) (a := n)
    split at h3 <;> omega
/-- a shortest way's squares -/
theorem IsDist.path {D : Garden} {s t n : Nat} (h : IsDist D s t n) : ∃ l : List Nat, l.length = n + 1 ∧ l.Nodup ∧ ∀ x ∈ l, ∃ k, k ≤ n ∧ IsDist D s x k := by
  induction n generalizing t with
  | zero => exact ⟨[t], rfl, by simp, fun x hx => ⟨0, Nat.le_refl _, by rw [List.mem_singleton.mp hx]; exact h⟩⟩
  | succ n ih =>
    obtain ⟨u, du, _⟩ := h.pred
    obtain ⟨l, h1, h2, h3⟩ := ih du
    refine ⟨t :: l, by rw [List.length_cons, h1], List.nodup_cons.mpr ⟨fun q => ?_, h2⟩, fun x hx => ?_⟩
    · obtain ⟨k, hk, dk⟩ := h3 t q
      have := dk.uniq h
      omega
    · rcases List.mem_cons.mp hx with rfl | hx
      · exact ⟨n + 1, Nat.le_refl _, h⟩
      · obtain ⟨k, hk, dk⟩ := h3 x hx
        exact ⟨k, by omega, dk⟩
theorem IsDist.lt {D : Garden} {s t n : Nat} (hs : s < D.squares) (h : IsDist D s t n) : n < D.squares := by
  obtain ⟨l, h1, h2, h3⟩ := h.path
  have := nodup_le D.squares l h2 (fun x hx => by
    obtain ⟨k, _, dk⟩ := h3 x hx
    exact dk.1.lt (outs_lt D) hs)
  omega
/-! ### The squares beside one, in the sides' order -/
def ifL (c : Bool) (v : Nat) : List Nat := if c = true then [v] else []
theorem outs_list (D : Garden) (s : Nat) : D.outs s = (D.goes s 0).toList ++ ((D.goes s 1).toList ++ ((D.goes s 2).toList ++ (D.goes s 3).toList)) := by
  unfold Garden.outs
  show List.filterMap (D.goes s) [0, 1, 2, 3] = _
  simp only [List.filterMap_cons, List.filterMap_nil]
  cases D.goes s 0 <;> cases D.goes s 1 <;> cases D.goes s 2 <;> cases D.goes s 3 <;> rfl
theorem goes_list {o : Option Nat} {c : Bool} {v : Nat} (h : ∀ t, o = some t ↔ c = true ∧ t = v) : o.toList = ifL c v := by
  unfold ifL
  cases e : o with
  | none =>
    by_cases q : c = true
    · have := (h v).mpr ⟨q, rfl⟩; rw [e] at this; cases this
    · rw [if_neg q]; rfl
  | some t =>
    obtain ⟨q, rfl⟩ := (h t).mp e
    rw [if_pos q]; rfl
theorem outs_eq {D : Garden} {x y : Nat} (hx : x < D.wide) : D.outs (y * D.wide + x) =
    ifL (decide (0 < y) && !D.hedge (D.uprights + ((y - 1) * D.wide + x))) ((y - 1) * D.wide + x) ++
    (ifL (decide (x + 1 < D.wide) && !D.hedge (y * (D.wide - 1) + x)) (y * D.wide + x + 1) ++
    (ifL (decide (y + 1 < D.high) && !D.hedge (D.uprights + (y * D.wide + x))) ((y + 1) * D.wide + x) ++
    ifL (decide (0 < x) && !D.hedge (y * (D.wide - 1) + (x - 1))) (y * D.wide + (x - 1)))) := by
  rw [outs_list]
  have g0 := goes_list (o := D.goes (y * D.wide + x) 0) (c := decide (0 < y) && !D.hedge (D.uprights + ((y - 1) * D.wide + x))) (v := (y - 1) * D.wide + x) (fun t => by
    rw [beyond0 hx, Bool.and_eq_true, decide_eq_true_iff, Bool.not_eq_true']
    exact ⟨fun z => ⟨⟨z.1, z.2.2⟩, z.2.1⟩, fun z => ⟨z.1.1, z.2, z.1.2⟩⟩)
  have g1 := goes_list (o := D.goes (y * D.wide + x) 1) (c := decide (x + 1 < D.wide) && !D.hedge (y * (D.wide - 1) + x)) (v := y * D.wide + x + 1) (fun t => by
    rw [beyond1 hx, Bool.and_eq_true, decide_eq_true_iff, Bool.not_eq_true']
    exact ⟨fun z => ⟨⟨z.1, z.2.2⟩, z.2.1⟩, fun z => ⟨z.1.1, z.2, z.1.2⟩⟩)
  have g2 := goes_list (o := D.goes (y * D.wide + x) 2) (c := decide (y + 1 < D.high) && !D.hedge (D.uprights + (y * D.wide + x))) (v := (y + 1) * D.wide + x) (fun t => by
    rw [beyond2 hx, Bool.and_eq_true, decide_eq_true_iff, Bool.not_eq_true']
    exact ⟨fun z => ⟨⟨z.1, z.2.2⟩, z.2.1⟩, fun z => ⟨z.1.1, z.2, z.1.2⟩⟩)
  have g3 := goes_list (o := D.goes (y * D.wide + x) 3) (c := decide (0 < x) && !D.hedge (y * (D.wide - 1) + (x - 1))) (v := y * D.wide + (x - 1)) (fun t => by
    rw [beyond3 hx, Bool.and_eq_true, decide_eq_true_iff, Bool.not_eq_true']
    exact ⟨fun z => ⟨⟨z.1, z.2.2⟩, z.2.1⟩, fun z => ⟨z.1.1, z.2, z.1.2⟩⟩)
  rw [g0, g1, g2, g3]
/-! ### The first shortest way, step by step -/
theorem dist_step {D : Garden} {s u n : Nat} (hu : u < D.squares) (h : IsDist D u s (n + 1)) : ∃ v, v ∈ D.outs s ∧ v < D.squares ∧ IsDist D u v n := by
  obtain ⟨v, dv, e⟩ := h.pred
  have hv := dv.1.lt (outs_lt D) hu
  exact ⟨v, outs_symm hv e, hv, dv⟩
theorem nearer_step {D : Garden} {s u n : Nat} (hu : u < D.squares) (hs : s < D.squares) (h : IsDist D u s (n + 1)) : ∃ v, (D.outs s).find? (fun (v : Nat) => (D.fars u).getD v none == some n) = some v ∧ v ∈ D.outs s ∧ v < D.squares ∧ IsDist D u v n ∧ D.nearer (D.fars u) (n + 1) s = s :: D.nearer (D.fars u) n v := by
  obtain ⟨v, hv, lv, dv⟩ := dist_step hu h
  have F := fars_spec (outs_lt D) hu
  have : ((D.outs s).find? (fun (v : Nat) => (D.fars u).getD v none == some n)).isSome = true := by
    rw [List.find?_isSome]
    exact ⟨v, hv, by have := (F.2 v n lv).mpr dv; unfold mkd at this; rw [this]; exact beq_self_eq_true _⟩
  cases e : (D.outs s).find? (fun (v : Nat) => (D.fars u).getD v none == some n) with
  | none => rw [e] at this; cases this
  | some v' =>
    have h1 := List.mem_of_find?_eq_some e
    have h2 := List.find?_some e
    have lv' := outs_lt D s v' hs h1
    refine ⟨v', rfl, h1, lv', (F.2 v' n lv').mp (eq_of_beq h2), ?_⟩
    conv => lhs; unfold Garden.nearer
    rw [e]
theorem way_some {D : Garden} {s u n : Nat} (hs : s < D.squares) (hu : u < D.squares) (h : IsDist D s u n) : D.way s u = some (D.nearer (D.fars u) n s) := by
  unfold Garden.way
  have F := fars_spec (outs_lt D) hu
  have := (F.2 s n hs).mpr (h.symm hs)
  unfold mkd at this
  show ((D.fars u).getD s none).map _ = _
  rw [this]
  rfl
theorem way_none {D : Garden} {s u : Nat} (hs : s < D.squares) (hu : u < D.squares) (h : ∀ n, ¬ Walk D s u n) : D.way s u = none := by
  unfold Garden.way
  show ((D.fars u).getD s none).map _ = _
  cases e : (D.fars u).getD s none with
  | none => rfl
  | some n => exact absurd (((fars_spec (outs_lt D) hu).2 s n hs).mp e).1 (fun w => h n (w.symm hu))
/-! ### The longest, by turns -/
def longTurn (D : Garden) (s : Nat) (acc : Nat × Nat × Nat) (t : Nat) : Nat × Nat × Nat := if s ≤ t then (match mkd (D.fars s) t with
  | some k => farther acc (k, s, t)
  | none => acc) else acc
theorem longest_fold (D : Garden) : D.longest = (List.range D.squares).foldl (fun acc s => (List.range D.squares).foldl (longTurn D s) acc) (0, 0, 0) := by
  unfold Garden.longest
  rw [List.foldl_flatMap]
  congr 1
  funext acc s
  dsimp only
  rw [List.foldl_filterMap]
  congr 1
  funext acc t
  unfold longTurn mkd
  by_cases h : s ≤ t
  · rw [if_pos h, if_pos h]
    cases (D.fars s).getD t none <;> rfl
  · rw [if_neg h, if_neg h]
/-- the pairs ahead of a square's own turn bring nothing -/
theorem long_from (D : Garden) (s n : Nat) (hs : s ≤ n) (acc : Nat × Nat × Nat) : (List.range n).foldl (longTurn D s) acc = (List.range' s (n - s)).foldl (longTurn D s) acc := by
  have e : List.range n = List.range s ++ List.range' s (n - s) := by
    have h2 : List.range (s + (n - s)) = List.range s ++ (List.range (n - s)).map (s + ·) := List.range_add
    rw [show s + (n - s) = n by omega] at h2
    rw [h2, List.range'_eq_map_range]
  rw [e, List.foldl_append]
  have skip : ∀ (l : List Nat) (a : Nat × Nat × Nat), (∀ x ∈ l, x < s) → l.foldl (longTurn D s) a = a := by
    intro l
    induction l with
    | nil => intro a _; rfl
    | cons c l ih =>
      intro a h
      rw [List.foldl_cons]
      have hc := h c (List.mem_cons_self ..)
      have : longTurn D s a c = a := if_neg (by omega)
      rw [this]
      exact ih a fun x hx => h x (List.mem_cons_of_mem _ hx)
  rw [skip _ _ fun x hx => List.mem_range.mp hx]
/-! ### What is due, of the other calls -/
theorem due_perfect (ns : List Int) : PyWqbacn.perfect ns = (MazeB.answer (.perfect (txt ns))).code :: (MazeB.answer (.perfect (txt ns))).nums.map fun (n : Nat) => (n : Int) := rfl
theorem due_far (s u : Int) (ns : List Int) : PyWqbacn.far s u ns = (MazeB.answer (.far (txt ns) s.toNat u.toNat)).code :: (MazeB.answer (.far (txt ns) s.toNat u.toNat)).nums.map fun (n : Nat) => (n : Int) := rfl
theorem due_way (s u : Int) (ns : List Int) : PyWqbacn.way s u ns = (MazeB.answer (.way (txt ns) s.toNat u.toNat)).code :: (MazeB.answer (.way (txt ns) s.toNat u.toNat)).nums.map fun (n : Nat) => (n : Int) := rfl
theorem due_ends (ns : List Int) : PyWqbacn.ends ns = (MazeB.answer (.ends (txt ns))).code :: (MazeB.answer (.ends (txt ns))).nums.map fun (n : Nat) => (n : Int) := rfl
theorem due_longest (ns : List Int) : PyWqbacn.longest ns = (MazeB.answer (.longest (txt ns))).code :: (MazeB.answer (.longest (txt ns))).nums.map fun (n : Nat) => (n : Int) := rfl
/-- an answer, by its refusal -/
theorem due_refused {ns : List Int} (h : refI ns ≠ 0) (f : Garden → Ans) : (ofGarden (txt ns) f).code :: (ofGarden (txt ns) f).nums.map (fun (n : Nat) => (n : Int)) = [refI ns] := by
  rcases ref_cases ns with ⟨e, q⟩ | ⟨e, q, p, r⟩ | ⟨e, _⟩
  · rw [e, ofGarden_far (by rw [txt_length]; exact q)]; rfl
  · rw [e, ofGarden_bad (by rw [txt_length]; exact q) r]; rfl
  · exact absurd e h
theorem due_answered {ns : List Int} {D : Garden} (h : refI ns = 0) (P : Pic ns D) (f : Garden → Ans) : ofGarden (txt ns) f = f D := by
  rcases ref_cases ns with ⟨e, q⟩ | ⟨e, q, p, r⟩ | ⟨e, q, _⟩
  · rw [e] at h; exact absurd h (by decide)
  · rw [e] at h; exact absurd h (by decide)
  · exact ofGarden_ok (by rw [txt_length]; exact q) P.read
theorem perfect_refused {ns : List Int} (h : refI ns ≠ 0) : PyWqbacn.perfect ns = [refI ns] := due_refused h _
theorem far_refused {ns : List Int} {s u : Int} (h : refI ns ≠ 0) : PyWqbacn.far s u ns = [refI ns] := due_refused h _
theorem way_refused {ns : List Int} {s u : Int} (h : refI ns ≠ 0) : PyWqbacn.way s u ns = [refI ns] := due_refused h _
theorem ends_refused {ns : List Int} (h : refI ns ≠ 0) : PyWqbacn.ends ns = [refI ns] := due_refused h _
theorem longest_refused {ns : List Int} (h : refI ns ≠ 0) : PyWqbacn.longest ns = [refI ns] := due_refused h _
theorem perfect_answered {ns : List Int} {D : Garden} (h : refI ns = 0) (P : Pic ns D) : PyWqbacn.perfect ns = [0, (D.perfect.toNat : Int)] := by
  rw [due_perfect]
  unfold MazeB.answer
  dsimp only
  rw [due_answered h P]
  rfl
theorem ends_answered {ns : List Int} {D : Garden} (h : refI ns = 0) (P : Pic ns D) : PyWqbacn.ends ns = 0 :: D.ends.map fun (n : Nat) => (n : Int) := by
  rw [due_ends]
  unfold MazeB.answer
  dsimp only
  rw [due_answered h P]
  rfl
theorem longest_answered {ns : List Int} {D : Garden} (h : refI ns = 0) (P : Pic ns D) : PyWqbacn.longest ns = [0, (D.longest.1 : Int), (D.longest.2.1 : Int), (D.longest.2.2 : Int)] := by
  rw [due_longest]
  unfold MazeB.answer
  dsimp only
  rw [due_answered h P]
  rfl
theorem far_nosquare {ns : List Int} {D : Garden} {s u : Nat} (h : refI ns = 0) (P : Pic ns D) (q : D.squares ≤ s ∨ D.squares ≤ u) : PyWqbacn.far (s : Int) (u : Int) ns = [-4] := by
  rw [due_far]
  unfold MazeB.answer
  dsimp only
  rw [due_answered h P, Int.toNat_natCast, Int.toNat_natCast, if_pos q]
  rfl
theorem way_nosquare {ns : List Int} {D : Garden} {s u : Nat} (h : refI ns = 0) (P : Pic ns D) (q : D.squares ≤ s ∨ D.squares ≤ u) : PyWqbacn.way (s : Int) (u : Int) ns = [-4] := by
  rw [due_way]
  unfold MazeB.answer
  dsimp only
  rw [due_answered h P, Int.toNat_natCast, Int.toNat_natCast, if_pos q]
  rfl
theorem far_noway {ns : List Int} {D : Garden} {s u : Nat} (h : refI ns = 0) (P : Pic ns D) (hs : s < D.squares) (hu : u < D.squares) (q : ∀ n, ¬ Walk D s u n) : PyWqbacn.far (s : Int) (u : Int) ns = [-5] := by
  rw [due_far]
  unfold MazeB.answer
  dsimp only
  rw [due_answered h P, Int.toNat_natCast, Int.toNat_natCast, if_neg (by omega), (far_none hs hu).mpr q]
  rfl
theorem far_told {ns : List Int} {D : Garden} {s u n : Nat} (h : refI ns = 0) (P : Pic ns D) (hs : s < D.squares) (hu : u < D.squares) (q : IsDist D s u n) : PyWqbacn.far (s : Int) (u : Int) ns = [0, (n : Int)] := by
  rw [due_far]
  unfold MazeB.answer
  dsimp only
  rw [due_answered h P, Int.toNat_natCast, Int.toNat_natCast, if_neg (by omega), (far_some hs hu).mpr q]
  rfl
theorem way_noway {ns : List Int} {D : Garden} {s u : Nat} (h : refI ns = 0) (P : Pic ns D) (hs : s < D.squares) (hu : u < D.squares) (q : ∀ n, ¬ Walk D s u n) : PyWqbacn.way (s : Int) (u : Int) ns = [-5] := by
  rw [due_way]
  unfold MazeB.answer
  dsimp only
  rw [due_answered h P, Int.toNat_natCast, Int.toNat_natCast, if_neg (by omega), way_none hs hu q]
  rfl
theorem way_told {ns : List Int} {D : Garden} {s u n : Nat} (h : refI ns = 0) (P : Pic ns D) (hs : s < D.squares) (hu : u < D.squares) (q : IsDist D s u n) : PyWqbacn.way (s : Int) (u : Int) ns = 0 :: (D.nearer (D.fars u) n s).map fun (k : Nat) => (k : Int) := by
  rw [due_way]
  unfold MazeB.answer
  dsimp only
  rw [due_answered h P, Int.toNat_natCast, Int.toNat_natCast, if_neg (by omega), way_some hs hu q]
  rfl
end Hw
end
section
set_option Elab.async false
namespace Hw
open Maze
/-! ### steps as the program writes them: -1 where no way leads -/
def stp : Option Nat → Int
  | none => -1
  | some n => (n : Int)
theorem stp_none {o : Option Nat} : stp o = -1 ↔ o = none := by
  cases o with
  | none => exact ⟨fun _ => rfl, fun _ => rfl⟩
  | some n =>
    constructor
    · intro h
      have h : (n : Int) = -1 := h
      omega
    · intro h; cases h
def stI (m : List (Option Nat)) : List Int := m.map stp
theorem stI_len (m : List (Option Nat)) : (stI m).length = m.length := List.length_map ..
theorem stI_at {m : List (Option Nat)} {t : Nat} (h : t < m.length) : (stI m)[t]? = some (stp (mkd m t)) := by
  unfold stI mkd
  rw [List.getElem?_map, List.getD_eq_getElem?_getD, List.getElem?_eq_getElem h]
  rfl
theorem stI_set (m : List (Option Nat)) (t d : Nat) : (stI m).set t (d : Int) = stI (m.set t (some d)) := by
  unfold stI
  rw [List.map_set]
  rfl
theorem stI_rep (n : Nat) : stI (List.replicate n none) = List.replicate n (-1) := by
  unfold stI
  rw [List.map_replicate]
  rfl
/-! ### the program's waves -/
section
variable {D : Garden} {s n d : Nat} {front : List Nat} {m : List (Option Nat)}
theorem WaveInv.perm {front' : List Nat} (I : WaveInv D s n d front m) (h : ∀ t, t ∈ front' ↔ t ∈ front) : WaveInv D s n d front' m :=
  ⟨I.len, fun t => (h t).trans (I.front t), I.sound, I.full⟩
theorem WaveInv.start (hs : s < n) : WaveInv D s n 0 [s] ((List.replicate n none).set s (some 0)) := by
  have hr : ∀ t, mkd (List.replicate n (none : Option Nat)) t = none := fun t => by
    unfold mkd
    rw [List.getD_eq_getElem?_getD, List.getElem?_replicate]
    split <;> rfl
  have hl : s < (List.replicate n (none : Option Nat)).length := by rw [List.length_replicate]; exact hs
  refine ⟨by rw [List.length_set, List.length_replicate], fun t => ?_, fun t k h => ?_, fun t k ht hk h => ?_⟩
  · rw [mkd_set hl, hr]
    by_cases e : t = s
    · simp [e]
    · simp [e]
  · rw [mkd_set hl, hr] at h
    by_cases e : t = s
    · rw [if_pos e] at h
      cases h
      exact ⟨Nat.le_refl _, IsDist.zero.mpr e⟩
    · rw [if_neg e] at h; cases h
  · have : k = 0 := by omega
    subst this
    rw [mkd_set hl, if_pos (IsDist.zero.mp h)]
theorem WaveInv.lt (I : WaveInv D s n d front m) {u : Nat} (hu : u ∈ front) : u < n := by
  have := (I.front u).mp hu
  rcases Nat.lt_or_ge u n with h | h
  · exact h
  · rw [mkd_out (by rw [I.len]; exact h)] at this; cases this
theorem mkd_ext {a b : List (Option Nat)} (hl : a.length = b.length) (h : ∀ t, t < a.length → mkd a t = mkd b t) : a = b := by
  refine List.ext_getElem hl fun t h1 h2 => ?_
  have := h t h1
  unfold mkd at this
  rw [List.getD_eq_getElem?_getD, List.getD_eq_getElem?_getD, List.getElem?_eq_getElem h1, List.getElem?_eq_getElem h2] at this
  exact this
theorem WaveInv.fars (hs : s < D.squares) (I : WaveInv D s D.squares d [] m) : m = D.fars s := by
  have F := fars_spec (outs_lt D) hs
  refine mkd_ext (by rw [I.len, F.1]) fun t ht => ?_
  rw [I.len] at ht
  have h1 := fun k => I.done (outs_lt D) hs t k ht
  have h2 := fun k => F.2 t k ht
  cases e : mkd m t with
  | some k => exact ((h2 k).mpr ((h1 k).mp e)).symm
  | none =>
    cases e2 : mkd (D.fars s) t with
    | none => rfl
    | some k => rw [(h1 k).mpr ((h2 k).mp e2)] at e; cases e
/-- what a wave has come to behind the squares ts -/
def waved (D : Garden) (d : Nat) (m : List (Option Nat)) (ts : List Nat) : List Nat × List (Option Nat) := ts.foldl (D.wave (d + 1)) ([], m)
theorem waved_snoc (ts : List Nat) (t : Nat) : waved D d m (ts ++ [t]) = D.wave (d + 1) (waved D d m ts) t := by
  unfold waved
  rw [List.foldl_append]
  rfl
theorem waved_old {ts : List Nat} {t : Nat} (h : mkd (waved D d m ts).2 t ≠ none) : waved D d m (ts ++ [t]) = waved D d m ts := by
  rw [waved_snoc]
  refine if_pos ?_
  unfold mkd at h
  cases e : (waved D d m ts).2.getD t none with
  | none => exact absurd e h
  | some _ => rfl
theorem waved_new {ts : List Nat} {t : Nat} (h : mkd (waved D d m ts).2 t = none) : waved D d m (ts ++ [t]) = (t :: (waved D d m ts).1, (waved D d m ts).2.set t (some (d + 1))) := by
  rw [waved_snoc]
  refine if_neg ?_
  unfold mkd at h
  rw [h]
  exact Bool.false_ne_true
/-- the squares gone through: those beside the first i of the front -/
def gone (D : Garden) (front : List Nat) (i : Nat) : List Nat := (front.take i).flatMap D.outs
theorem gone_succ {i u : Nat} (h : front[i]? = some u) : gone D front (i + 1) = gone D front i ++ D.outs u := by
  unfold gone
  rw [List.take_add_one, h, List.flatMap_append]
  show _ ++ [u].flatMap D.outs = _
  rw [List.flatMap_cons, List.flatMap_nil, List.append_nil]
theorem take_snoc {l : List Nat} {j t : Nat} (h : l[j]? = some t) (pre : List Nat) : pre ++ l.take (j + 1) = pre ++ l.take j ++ [t] := by
  rw [List.take_add_one, h, List.append_assoc]
  rfl
theorem gone_lt (hn : ∀ u t, u < n → t ∈ D.outs u → t < n) (I : WaveInv D s n d front m) (i : Nat) : ∀ t ∈ gone D front i, t < n := fun t ht => by
  obtain ⟨u, hu, e⟩ := List.mem_flatMap.mp ht
  exact hn u t (I.lt (List.mem_of_mem_take hu)) e
structure Waved (D : Garden) (n d : Nat) (front : List Nat) (m : List (Option Nat)) (x : List Nat × List (Option Nat)) : Prop where
  len : x.2.length = n
  front : ∀ u ∈ front, mkd x.2 u = some d
  cnt : x.2.countP Option.isNone + x.1.length = m.countP Option.isNone
theorem WaveInv.waved (I : WaveInv D s n d front m) {ts : List Nat} (h : ∀ t ∈ ts, t < n) : Waved D n d front m (waved D d m ts) := by
  obtain ⟨a, b, _, z⟩ := wave_fold D (d + 1) ts [] m (fun t ht => by rw [I.len]; exact h t ht)
  refine ⟨by rw [← I.len]; exact a, fun u hu => ?_, z⟩
  have := b u
  rw [(I.front u).mp hu] at this
  unfold Hw.waved
  rw [this, if_neg (by simp)]
theorem WaveInv.turn (hn : ∀ u t, u < n → t ∈ D.outs u → t < n) (hs : s < n) (I : WaveInv D s n d front m) :
    WaveInv D s n (d + 1) (Hw.waved D d m (gone D front front.length)).1.reverse (Hw.waved D d m (gone D front front.length)).2 := by
  have e : gone D front front.length = front.flatMap D.outs := by unfold gone; rw [List.take_length]
  rw [e]
  exact (I.next hn hs).perm fun t => List.mem_reverse
theorem count_le (m : List (Option Nat)) : m.countP Option.isNone ≤ m.length := List.countP_le_length
end
/-! ### the sides, one after another -/
def sdx : Nat → Int
  | 0 => 0
  | 1 => 1
  | 2 => 0
  | _ => -1
def sdy : Nat → Int
  | 0 => -1
  | 1 => 0
  | 2 => 1
  | _ => 0
def goB (D : Garden) (x y : Nat) : Nat → Bool
  | 0 => decide (0 < y) && !D.hedge (D.uprights + ((y - 1) * D.wide + x))
  | 1 => decide (x + 1 < D.wide) && !D.hedge (y * (D.wide - 1) + x)
  | 2 => decide (y + 1 < D.high) && !D.hedge (D.uprights + (y * D.wide + x))
  | _ => decide (0 < x) && !D.hedge (y * (D.wide - 1) + (x - 1))
def toN (D : Garden) (x y : Nat) : Nat → Nat
  | 0 => (y - 1) * D.wide + x
  | 1 => y * D.wide + x + 1
  | 2 => (y + 1) * D.wide + x
  | _ => y * D.wide + (x - 1)
def outsTo (D : Garden) (x y k : Nat) : List Nat := (List.range k).flatMap fun k => ifL (goB D x y k) (toN D x y k)
theorem outsTo_succ (D : Garden) (x y k : Nat) : outsTo D x y (k + 1) = outsTo D x y k ++ ifL (goB D x y k) (toN D x y k) := by
  unfold outsTo
  rw [List.range_succ, List.flatMap_append, List.flatMap_cons, List.flatMap_nil, List.append_nil]
theorem outs_to {D : Garden} {x y : Nat} (hx : x < D.wide) : outsTo D x y 4 = D.outs (y * D.wide + x) := by
  rw [outs_eq hx, outsTo_succ, outsTo_succ, outsTo_succ, outsTo_succ]
  show ((([] ++ _) ++ _) ++ _) ++ _ = _
  rw [List.nil_append, List.append_assoc, List.append_assoc]
  rfl
theorem ifL_len (c : Bool) (v : Nat) : (ifL c v).length ≤ 1 := by
  unfold ifL
  split <;> simp
theorem outsTo_len (D : Garden) (x y : Nat) : ∀ k, (outsTo D x y k).length ≤ k
  | 0 => Nat.le_refl _
  | k + 1 => by
    rw [outsTo_succ, List.length_append]
    have := outsTo_len D x y k
    have := ifL_len (goB D x y k) (toN D x y k)
    omega
theorem Pic.line {ns : List Int} {D : Garden} (P : Pic ns D) {l c : Nat} (hl : l < 2 * D.high + 1) (hc : c < 2 * D.wide + 2) {v : Int} (h : ns[l * (2 * D.wide + 2) + c]? = some v) : okSign D.wide D.high l c (UInt8.ofNat v.toNat) := by
  have ok := P.drawn.fits.ok l c hl hc
  rw [sg_txt h] at ok
  exact ok
theorem side_fact {ns : List Int} {D : Garden} (P : Pic ns D) {x y k : Nat} (hx : x < D.wide) (hy : y < D.high) (hk : k < 4) : ∃ (c l : Nat) (z : Int), (c : Int) = 2 * (x : Int) + 1 + sdx k ∧ (l : Int) = 2 * (y : Int) + 1 + sdy k ∧ l ≤ 20 ∧
    ns[l * (2 * D.wide + 2) + c]? = some z ∧ decide (z = 32) = goB D x y k ∧ (goB D x y k = true → ((y : Int) + sdy k) * (D.wide : Int) + (x : Int) + sdx k = (toN D x y k : Int)) := by
  have h2 := P.h2
  have w2 := P.w2
  match k, hk with
  | 0, _ =>
    obtain ⟨z, hz⟩ := P.at_ (l := 2 * y) (c := 2 * x + 1) (by omega) (by omega)
    refine ⟨2 * x + 1, 2 * y, z, by show _ = 2 * (x : Int) + 1 + 0; omega, by show _ = 2 * (y : Int) + 1 + -1; omega, by omega, hz, ?_, ?_⟩
    · show _ = (decide (0 < y) && !D.hedge (D.uprights + ((y - 1) * D.wide + x)))
      by_cases q : 0 < y
      · rw [decide_eq_true q, Bool.true_and]
        exact P.lv (y := y - 1) (x := x) (by omega) hx (by rw [show 2 * (y - 1) + 2 = 2 * y by omega]; exact hz)
      · rw [decide_eq_false q, Bool.false_and]
        have ok := P.line (by omega) (by omega) hz
        unfold okSign at ok
        rw [if_neg (by omega), if_neg (by omega), if_neg (by omega), if_pos (by omega), if_pos (by omega), b45 (mem_at P.bytes hz)] at ok
        rw [ok]; rfl
    · intro g
      have g : (decide (0 < y) && !D.hedge (D.uprights + ((y - 1) * D.wide + x))) = true := g
      have q : 0 < y := of_decide_eq_true (Bool.and_eq_true_iff.mp g).1
      show ((y : Int) + -1) * (D.wide : Int) + (x : Int) + 0 = (((y - 1) * D.wide + x : Nat) : Int)
      rw [Int.natCast_add, Int.natCast_mul, show ((y - 1 : Nat) : Int) = (y : Int) + -1 by omega]
      omega
  | 1, _ =>
    obtain ⟨z, hz⟩ := P.at_ (l := 2 * y + 1) (c := 2 * x + 2) (by omega) (by omega)
    refine ⟨2 * x + 2, 2 * y + 1, z, by show _ = 2 * (x : Int) + 1 + 1; omega, by show _ = 2 * (y : Int) + 1 + 0; omega, by omega, hz, ?_, ?_⟩
    · show _ = (decide (x + 1 < D.wide) && !D.hedge (y * (D.wide - 1) + x))
      by_cases q : x + 1 < D.wide
      · rw [decide_eq_true q, Bool.true_and]
        exact P.up hy (by omega) hz
      · rw [decide_eq_false q, Bool.false_and]
        have ok := P.line (by omega) (by omega) hz
        unfold okSign at ok
        rw [if_neg (by omega), if_neg (by omega), if_neg (by omega), if_neg (by omega), if_pos (by omega), b124 (mem_at P.bytes hz)] at ok
        rw [ok]; rfl
    · intro _
      show ((y : Int) + 0) * (D.wide : Int) + (x : Int) + 1 = ((y * D.wide + x + 1 : Nat) : Int)
      rw [Int.natCast_add, Int.natCast_add, Int.natCast_mul, Int.add_zero]
      rfl
  | 2, _ =>
    obtain ⟨z, hz⟩ := P.at_ (l := 2 * y + 2) (c := 2 * x + 1) (by omega) (by omega)
    refine ⟨2 * x + 1, 2 * y + 2, z, by show _ = 2 * (x : Int) + 1 + 0; omega, by show _ = 2 * (y : Int) + 1 + 1; omega, by omega, hz, ?_, ?_⟩
    · show _ = (decide (y + 1 < D.high) && !D.hedge (D.uprights + (y * D.wide + x)))
      by_cases q : y + 1 < D.high
      · rw [decide_eq_true q, Bool.true_and]
        exact P.lv (by omega) hx hz
      · rw [decide_eq_false q, Bool.false_and]
        have ok := P.line (by omega) (by omega) hz
        unfold okSign at ok
        rw [if_neg (by omega), if_neg (by omega), if_neg (by omega), if_pos (by omega), if_pos (by omega), b45 (mem_at P.bytes hz)] at ok
        rw [ok]; rfl
    · intro _
      show ((y : Int) + 1) * (D.wide : Int) + (x : Int) + 0 = (((y + 1) * D.wide + x : Nat) : Int)
      rw [Int.natCast_add, Int.natCast_mul, Int.add_zero]
      rfl
  | 3, _ =>
    obtain ⟨z, hz⟩ := P.at_ (l := 2 * y + 1) (c := 2 * x) (by omega) (by omega)
    refine ⟨2 * x, 2 * y + 1, z, by show _ = 2 * (x : Int) + 1 + -1; omega, by show _ = 2 * (y : Int) + 1 + 0; omega, by omega, hz, ?_, ?_⟩
    · show _ = (decide (0 < x) && !D.hedge (y * (D.wide - 1) + (x - 1)))
      by_cases q : 0 < x
      · rw [decide_eq_true q, Bool.true_and]
        exact P.up (y := y) (x := x - 1) hy (by omega) (by rw [show 2 * (x - 1) + 2 = 2 * x by omega]; exact hz)
      · rw [decide_eq_false q, Bool.false_and]
        have ok := P.line (by omega) (by omega) hz
        unfold okSign at ok
        rw [if_neg (by omega), if_neg (by omega), if_neg (by omega), if_neg (by omega), if_pos (by omega), b124 (mem_at P.bytes hz)] at ok
        rw [ok]; rfl
    · intro g
      have g : (decide (0 < x) && !D.hedge (y * (D.wide - 1) + (x - 1))) = true := g
      have q : 0 < x := of_decide_eq_true (Bool.and_eq_true_iff.mp g).1
      show ((y : Int) + 0) * (D.wide : Int) + (x : Int) + -1 = ((y * D.wide + (x - 1) : Nat) : Int)
      rw [Int.natCast_add, Int.natCast_mul, Int.add_zero]
      omega
/-! ### the next square of the first shortest way -/
theorem far_stp {D : Garden} {u v k : Nat} (hu : u < D.squares) (hv : v < D.squares) (h : IsDist D u v k) : stp (mkd (D.fars u) v) = (k : Int) := by
  rw [((fars_spec (outs_lt D) hu).2 v k hv).mpr h]
  rfl
theorem nearer_filter {D : Garden} {u c k : Nat} (hu : u < D.squares) (hc : c < D.squares) (h : IsDist D u c (k + 1)) : ∃ v,
    ((D.outs c).filter fun (v : Nat) => decide (stp (mkd (D.fars u) v) < stp (mkd (D.fars u) c))).head? = some v ∧ v < D.squares ∧ IsDist D u v k ∧ D.nearer (D.fars u) (k + 1) c = c :: D.nearer (D.fars u) k v := by
  obtain ⟨v, e, _, lv, dv, hw⟩ := nearer_step hu hc h
  refine ⟨v, ?_, lv, dv, hw⟩
  rw [List.head?_filter, ← e]
  have F := fars_spec (outs_lt D) hu
  have key : ∀ w ∈ D.outs c, decide (stp (mkd (D.fars u) w) < stp (mkd (D.fars u) c)) = ((D.fars u).getD w none == some k) := fun w hw => by
    have lw := outs_lt D c w hc hw
    obtain ⟨j, _, dj⟩ := (Walk.snoc h.1 hw).dist
    rw [far_stp hu lw dj, far_stp hu hc h]
    have e1 : (D.fars u).getD w none = some j := (F.2 w j lw).mpr dj
    rw [e1]
    have le : k ≤ j := by
      rcases Nat.lt_or_ge j k with z | z
      · exact absurd (Walk.snoc dj.1 (outs_symm hc hw)) (h.2 (j + 1) (by omega))
      · exact z
    by_cases q : j = k
    · subst q
      rw [decide_eq_true (by omega)]
      exact (beq_self_eq_true _).symm
    · rw [decide_eq_false (by omega)]
      refine (beq_eq_false_iff_ne.mpr fun z => q ?_).symm
      injection z
  have gen : ∀ (l : List Nat) (p q : Nat → Bool), (∀ w ∈ l, p w = q w) → l.find? p = l.find? q := by
    intro l p q
    induction l with
    | nil => intro _; rfl
    | cons a l ih =>
      intro hp
      rw [List.find?_cons, List.find?_cons, hp a (List.mem_cons_self ..), ih fun w hw => hp w (List.mem_cons_of_mem _ hw)]
  exact gen _ _ _ key
/-! ### the longest, turn by turn -/
theorem longTurn_stp {D : Garden} {s t : Nat} (h : s ≤ t) (acc : Nat × Nat × Nat) : longTurn D s acc t = if (acc.1 : Int) < stp (mkd (D.fars s) t) then ((stp (mkd (D.fars s) t)).toNat, s, t) else acc := by
  unfold longTurn
  rw [if_pos h]
  cases e : mkd (D.fars s) t with
  | none =>
    rw [if_neg]
    show ¬ (acc.1 : Int) < -1
    omega
  | some k =>
    show farther acc (k, s, t) = if (acc.1 : Int) < (k : Int) then (((k : Int)).toNat, s, t) else acc
    unfold farther
    rw [Int.toNat_natCast]
    by_cases q : acc.1 < k
    · rw [if_pos q, if_pos (by omega)]
    · rw [if_neg q, if_neg (by omega)]
def longRow (D : Garden) (s : Nat) (acc : Nat × Nat × Nat) (i : Nat) : Nat × Nat × Nat := (List.range' s i).foldl (longTurn D s) acc
theorem longRow_succ (D : Garden) (s : Nat) (acc : Nat × Nat × Nat) (i : Nat) : longRow D s acc (i + 1) = longTurn D s (longRow D s acc i) (s + i) := by
  unfold longRow
  rw [List.range'_1_concat, List.foldl_append]
  rfl
def longTo (D : Garden) (i : Nat) : Nat × Nat × Nat := (List.range i).foldl (fun acc s => longRow D s acc (D.squares - s)) (0, 0, 0)
theorem longTo_succ (D : Garden) (i : Nat) : longTo D (i + 1) = longRow D i (longTo D i) (D.squares - i) := by
  unfold longTo
  rw [List.range_succ, List.foldl_append]
  rfl
theorem longTo_all (D : Garden) : longTo D D.squares = D.longest := by
  rw [longest_fold]
  unfold longTo longRow
  have gen : ∀ (l : List Nat) (acc : Nat × Nat × Nat), (∀ s ∈ l, s ≤ D.squares) → l.foldl (fun acc s => (List.range' s (D.squares - s)).foldl (longTurn D s) acc) acc = l.foldl (fun acc s => (List.range D.squares).foldl (longTurn D s) acc) acc := by
    intro l
    induction l with
    | nil => intro _ _; rfl
    | cons a l ih =>
      intro acc h
      rw [List.foldl_cons, List.foldl_cons, ih _ fun s hs => h s (List.mem_cons_of_mem _ hs), long_from D a D.squares (h a (List.mem_cons_self ..))]
  exact gen _ _ fun s hs => Nat.le_of_lt (List.mem_range.mp hs)
/-! ### the dead ends, square by square -/
def endsTo (D : Garden) (i : Nat) : List Nat := (List.range i).filter fun (s : Nat) => D.degree s == 1
theorem endsTo_succ (D : Garden) (i : Nat) : endsTo D (i + 1) = endsTo D i ++ ifL (D.degree i == 1) i := by
  unfold endsTo ifL
  rw [List.range_succ, List.filter_append, List.filter_cons, List.filter_nil]
theorem endsTo_len (D : Garden) (i : Nat) : (endsTo D i).length ≤ i := by
  unfold endsTo
  exact Nat.le_trans (List.length_filter_le ..) (by rw [List.length_range]; exact Nat.le_refl _)
/-! ### perfect -/
theorem perfect_int (D : Garden) : (D.perfect.toNat : Int) = if (cnt (roomLeast D) D.squares : Int) = 1 then (if ((passPairs D).length : Int) + (cnt (roomLeast D) D.squares : Int) - (D.squares : Int) = 0 then 1 else 0) else 0 := by
  rw [← rings_told, ← rooms_told]
  unfold Garden.perfect
  by_cases a : D.rooms = 1
  · rw [if_pos (by omega), a]
    by_cases b : D.rings = 0
    · rw [if_pos (by omega), b]; rfl
    · rw [if_neg (by omega), beq_eq_false_iff_ne.mpr b]; rfl
  · rw [if_neg (by omega), beq_eq_false_iff_ne.mpr a]; rfl
end Hw
end
section
set_option Elab.async false
set_option linter.all false
set_option maxRecDepth 100000
set_option maxHeartbeats 2000000
namespace Hw
open PySem PySem.Spec PyProof.Rows L2
/-! ### rules of our own over the layer -/
def Const (mg : Str → Option Value) (x : Str) (i : Int) : Prop := ∃ t, mg x = some (Value.int i t)
structure Fn (P : Program) (w : World) (K : PySem.W.Frag) (mg : Str → Option Value) (base : Heap) (k : Nat) (x : Str) (ps : List Str) (sp : Sp) : Prop where
  ex : ∃ (f : Addr) (fd : FuncData), FnOk P w K mg base CX0 k f fd ps sp ∧ mg x = some (.ref f) ∧ PySem.W.keepIn K (.ref f) = true ∧ Binds K fd ps []
section
variable {X : Cx}
theorem pc_const {x : Str} {i : Int} {pos : Pos} (hg : Gl X x) (h : Const X.mg x i) (hd : (x == ("__debug__" : Str)) = false := by decide) : PE X (.Name x pos) (tC (.int i)) := by
  obtain ⟨t, e⟩ := h
  exact pe_glob hg e ⟨t, rfl⟩ hd
theorem pe_fn {k : Nat} {x : Str} {ps : List Str} {sp : Sp} {e : Expr} {es : List Expr} {t : TA} {p pos : Pos} (F : Fn X.prog X.w X.K X.mg X.base k x ps sp) (hr : Room k X.A) (hg : Gl X x) (ha : PA X (e :: es) t)
    (hdb : (x == ("__debug__" : Str)) = false := by decide) (he : starEach (e :: es) X.env = (false, eval e X.env) :: starEach es X.env := by rfl) (hpl : (backTo pos (starEach es X.env)).any (·.1) = false := by rfl) :
    PE X (.Call (.Name x p) (e :: es) [] pos) (tCall sp [] E0 t) := by
  obtain ⟨f, fd, ok, hm, kp, b⟩ := F.ex
  exact pe_call ok hr hg hm kp b .nil pass0 ha hdb he hpl
/-- range(n), as an object -/
theorem call_range1 : CallR X (.type "range") (fun xs H Q => ∃ j : Int, xs = [.int j] ∧ ∀ l, H l = none → Q (.ref l) (upd H l (.rng 0 j))) := by
  intro pins s σ H xs us Q I r h
  obtain ⟨j, rfl, q⟩ := h
  obtain ⟨u, rfl, t, rfl⟩ := vals1 r
  refine call_range_1 ?_
  have hf : H s.heap.objs.size = none := I.hok.fresh (Nat.le_refl _)
  exact ⟨.ref s.heap.objs.size, upd H s.heap.objs.size (.rng 0 j), I.laid (fun b u e => Heap.get?_push_of_some _ e) (Nat.le_refl _) ⟨_, _, _, Heap.get?_push_size _ rfl⟩, rfl, q _ hf⟩
def natV (l : List Nat) : List V := l.map fun (k : Nat) => V.int (k : Int)
theorem vals_from : ∀ (us : List Value) (k : Nat), (∀ j v, us[j]? = some v → ∃ t, v = Value.int ((k + j : Nat) : Int) t) → Vals (natV (List.range' k us.length)) us
  | [], k, _ => .nil
  | u :: us, k, h => by
    refine .cons (h 0 u rfl) (vals_from us (k + 1) fun j v e => ?_)
    obtain ⟨t, e2⟩ := h (j + 1) v e
    exact ⟨t, by rw [e2, show k + (j + 1) = k + 1 + j by omega]⟩
/-- list(range(n)) -/
theorem call_list_rng (hc : X.calm = true) : CallR X (.type "list") (fun xs H Q => ∃ (p : Addr) (n : Nat), xs = [.ref p] ∧ H p = some (.rng 0 (n : Int)) ∧ n ≤ 1000 ∧ ∀ l, H l = none → Q (.ref l) (upd H l (.lst (natV (List.range n))))) := by
  intro pins s σ H xs us Q I r h
  obtain ⟨p, n, rfl, hp, hn, q⟩ := h
  obtain ⟨u, rfl, rx⟩ := vals1 r
  cases rx
  obtain ⟨t1, t2, t3, e⟩ := I.hok p _ hp
  have hs : Builtin.Range.rangeSize 0 (n : Int) 1 = (n : Int) := by
    rw [rangeSize_one]
    split <;> omega
  refine call_list_range (I.ok.hd hc) (show IsRange s.heap p 0 (n : Int) 1 t1 t2 t3 from e) (small_one (by omega) (by omega) (by omega) (by omega)) hs (by omega) fun h' tk acc' c' kp e' items => ?_
  have hv : Vals (natV (List.range n)) acc'.toList := by
    have h1 : acc'.toList.length = n := by rw [Array.length_toList]; exact items.1
    have := vals_from acc'.toList 0 fun j v e => by
      obtain ⟨t, e2⟩ := items.2 j v (by rw [← Array.getElem?_toList]; exact e)
      exact ⟨t, by rw [e2]; congr 1; omega⟩
    rw [h1, ← List.range_eq_range'] at this
    exact this
  have hl : (natV (List.range n)).length ≤ sizeLine := by
    unfold natV
    rw [List.length_map, List.length_range]
    exact Nat.le_trans hn (by decide)
  exact ⟨.ref s.heap.objs.size, _, I.laid kp (Nat.le_refl _) (show ObjOk X.prog X.w _ h' _ (.lst (natV (List.range n))) from ⟨hl, acc'.toList, c', hv, by rw [e']⟩), rfl, q _ (I.hok.fresh (Nat.le_refl _))⟩
end
theorem cmul_nat {n : Nat} {j : Int} (h : n ≤ 100000) : CMul (n : Int) j := .inl ⟨by omega, by omega⟩
theorem upd_Same {H : Hp} {l : Addr} {o : HO} (h : H l = none) : Same H (upd H l o) := fun b u e => by
  rw [upd_ne (ne_of_none e h)]; exact e
/-- a list of pairs -/
structure PairsAt (H : Hp) (p : Addr) (as : List Addr) (ps : List (Nat × Nat)) : Prop where
  lst : H p = some (.lst (as.map V.ref))
  len : as.length = ps.length
  at_ : ∀ (i : Nat) (a : Addr) (e : Nat × Nat), as[i]? = some a → ps[i]? = some e → H a = some (.tup [.int (e.1 : Int), .int (e.2 : Int)])
theorem PairsAt.same {H H' : Hp} {p : Addr} {as : List Addr} {ps : List (Nat × Nat)} (A : PairsAt H p as ps) (s : Same H H') : PairsAt H' p as ps :=
  ⟨s _ _ A.lst, A.len, fun i a e h1 h2 => s _ _ (A.at_ i a e h1 h2)⟩
theorem PairsAt.nil {H : Hp} {p : Addr} (h : H p = some (.lst [])) : PairsAt H p [] [] := ⟨h, rfl, fun i a e h1 => by simp at h1⟩
/-- a new pair appended -/
theorem PairsAt.push {H : Hp} {p t : Addr} {as : List Addr} {ps : List (Nat × Nat)} {e : Nat × Nat} (A : PairsAt H p as ps) (ht : H t = none) :
    PairsAt (upd (upd H t (.tup [.int (e.1 : Int), .int (e.2 : Int)])) p (.lst (as.map V.ref ++ [.ref t]))) p (as ++ [t]) (ps ++ [e]) := by
  have tp : t ≠ p := fun z => by rw [z, A.lst] at ht; cases ht
  refine ⟨by rw [upd_same, List.map_append]; rfl, by rw [List.length_append, List.length_append, A.len]; rfl, fun i a q h1 h2 => ?_⟩
  by_cases hi : i < as.length
  · rw [List.getElem?_append_left hi] at h1
    rw [List.getElem?_append_left (by rw [← A.len]; exact hi)] at h2
    have h3 := A.at_ i a q h1 h2
    have ap : a ≠ p := ne_of h3 A.lst (by intro z; cases z)
    rw [upd_ne ap, upd_ne (ne_of_none h3 ht)]
    exact h3
  · rw [List.getElem?_append_right (by omega)] at h1
    rw [List.getElem?_append_right (by rw [← A.len]; omega), ← A.len] at h2
    obtain ⟨k, hk⟩ : ∃ k, i - as.length = k := ⟨_, rfl⟩
    rw [hk] at h1 h2
    match k, h1, h2 with
    | 0, h1, h2 =>
      have e1 : t = a := Option.some.inj h1
      have e2 : e = q := Option.some.inj h2
      subst e1 e2
      rw [upd_ne tp, upd_same]
    | k + 1, h1, h2 => simp at h1
/-- what stands apart from the pairs' list is as it was behind an append -/
theorem push_Same {H0 H : Hp} {p t : Addr} {o u : HO} (s : Same H0 H) (hp : H0 p = none) (ht : H t = none) : Same H0 (upd (upd H t o) p u) := fun b v e => by
  have bp : b ≠ p := ne_of_none e hp
  rw [upd_ne bp, upd_ne (ne_of_none (s b v e) ht)]
  exact s b v e
theorem at_nats {L : List Nat} {z : Int} {j : Nat} (e : z = (j : Int)) (h : j < L.length) : atI (natV L) z = some (.int (at0 L j : Int)) := at_of e (by
  unfold natV at0
  rw [List.getElem?_map, List.getD_eq_getElem?_getD, List.getElem?_eq_getElem h]
  rfl)
theorem min_cast (a b : Nat) : (if (b : Int) < (a : Int) then (b : Int) else (a : Int)) = ((min a b : Nat) : Int) := by
  split <;> omega
theorem max_cast (a b : Nat) : (if (b : Int) > (a : Int) then (b : Int) else (a : Int)) = ((max a b : Nat) : Int) := by
  split <;> omega
/-! ### lists of numbers, lists of lists -/
theorem natV_len (l : List Nat) : (natV l).length = l.length := List.length_map ..
theorem natV_snoc (l : List Nat) (v : Nat) : natV (l ++ [v]) = natV l ++ [.int (v : Int)] := by
  unfold natV
  rw [List.map_append]
  rfl
theorem natV_get {l : List Nat} {i : Nat} {y : V} (h : (natV l)[i]? = some y) : ∃ c, l[i]? = some c ∧ y = V.int (c : Int) := by
  unfold natV at h
  rw [List.getElem?_map] at h
  cases e : l[i]? with
  | none => rw [e] at h; cases h
  | some c => rw [e] at h; exact ⟨c, rfl, (Option.some.inj h).symm⟩
theorem ixN_nat {n u : Nat} (h : u < n) : ixN n (u : Int) = some u := by
  unfold ixN
  rw [if_pos (by omega), if_pos (by omega), Int.toNat_natCast]
theorem Same.updN {H H' : Hp} {q : Addr} {o : HO} (s : Same H H') (h : H q = none) : Same H (upd H' q o) := fun b u e => by
  rw [upd_ne (ne_of_none e h)]
  exact s b u e
theorem at_ref {as : List Addr} {i : Nat} {a : Addr} (h : as[i]? = some a) : atI (as.map V.ref) (i : Int) = some (.ref a) := atI_nat (by rw [List.getElem?_map, h]; rfl)
/-- for each square ahead of i the squares beside it -/
structure BesTo (H : Hp) (d : Addr) (as : List Addr) (D : Maze.Garden) (i : Nat) : Prop where
  lst : H d = some (.lst (as.map V.ref))
  len : as.length = i
  at_ : ∀ (j : Nat) (a : Addr), as[j]? = some a → a ≠ d ∧ H a = some (.lst (natV (D.outs j)))
theorem BesTo.same {H H' : Hp} {d : Addr} {as : List Addr} {D : Maze.Garden} {i : Nat} (B : BesTo H d as D i) (s : Same H H') : BesTo H' d as D i :=
  ⟨s _ _ B.lst, B.len, fun j a h => ⟨(B.at_ j a h).1, s _ _ (B.at_ j a h).2⟩⟩
theorem BesTo.nil {H : Hp} {d : Addr} {D : Maze.Garden} (h : H d = some (.lst [])) : BesTo H d [] D 0 := ⟨h, rfl, fun j a h => by simp at h⟩
theorem BesTo.push {H1 H2 : Hp} {d p : Addr} {as : List Addr} {D : Maze.Garden} {i : Nat} (B : BesTo H1 d as D i) (s : Same H1 H2) (h0 : H1 p = none) (hp : H2 p = some (.lst (natV (D.outs i)))) :
    BesTo (upd H2 d (.lst (as.map V.ref ++ [.ref p]))) d (as ++ [p]) D (i + 1) := by
  have pd : p ≠ d := fun z => by rw [z, B.lst] at h0; cases h0
  refine ⟨by rw [upd_same, List.map_append]; rfl, by rw [List.length_append, B.len]; rfl, fun j a h => ?_⟩
  by_cases hj : j < as.length
  · rw [List.getElem?_append_left hj] at h
    obtain ⟨e1, e2⟩ := B.at_ j a h
    exact ⟨e1, by rw [upd_ne e1]; exact s _ _ e2⟩
  · rw [List.getElem?_append_right (by omega)] at h
    obtain ⟨k, hk⟩ : ∃ k, j - as.length = k := ⟨_, rfl⟩
    rw [hk] at h
    match k, h with
    | 0, h =>
      have e1 : p = a := Option.some.inj h
      subst e1
      have : j = i := by rw [← B.len]; omega
      subst this
      exact ⟨pd, by rw [upd_ne pd]; exact hp⟩
    | k + 1, h => simp at h
theorem BesTo.get {H : Hp} {d : Addr} {as : List Addr} {D : Maze.Garden} {i c : Nat} (B : BesTo H d as D i) (h : c < i) : ∃ a, as[c]? = some a ∧ H a = some (.lst (natV (D.outs c))) := by
  have lt : c < as.length := by rw [B.len]; exact h
  exact ⟨_, List.getElem?_eq_getElem lt, (B.at_ c _ (List.getElem?_eq_getElem lt)).2⟩
/-! ### within a comprehension: what hangs on the written part alone -/
theorem ix_listK {X : Cx} {K : PySem.W.Frag} (h : X.K = K) : IxR X (rIxL K) := by
  subst h
  exact ix_list
theorem call_lenK {X : Cx} {K : PySem.W.Frag} (h : X.K = K) : CallR X (.builtin "len") (fun xs H Q => ∃ p ys, xs = [.ref p] ∧ (SqL K H p ys ∨ SqT K H p ys) ∧ Q (.int ys.length) H) := by
  subst h
  exact call_len_seq
end Hw
end
set_option Elab.async false
set_option linter.all false
set_option maxRecDepth 100000
set_option maxHeartbeats 2000000
namespace Hw
open PySem PySem.Spec PyProof.Rows L2
open Maze (Garden)
def top (i : Nat) : Stmt := PySem.Challenge.pw_hedgeways_s04_far.main.body.getD i (.Pass ⟨0, 0, 0, 0⟩)
abbrev sSign : Stmt := top 20
abbrev sWidth : Stmt := top 18
abbrev sHeight : Stmt := top 19
abbrev sSide : Stmt := top 23
abbrev sFit : Stmt := top 22
abbrev sAll : Stmt := top 21
abbrev sDrawing : Stmt := top 17
abbrev sRefusal : Stmt := top 16
abbrev sThrough : Stmt := top 25
abbrev sBeside : Stmt := top 24
abbrev sSteps : Stmt := top 26
abbrev sFar : Stmt := top 15
structure Txt (mg : Str → Option Value) : Prop where
  lineEnd : Const mg "LINE_END" 10
  blank : Const mg "BLANK" 32
  corner : Const mg "CORNER" 43
  level : Const mg "LEVEL_HEDGE" 45
  upright : Const mg "UPRIGHT_HEDGE" 124
  squares : Const mg "MOST_SQUARES" 10
  bytes : Const mg "MOST_BYTES" 1024
  told : Const mg "TOLD" 0
  long : Const mg "TOO_LONG" (-2)
  fault : Const mg "AT_FAULT" (-6)
  range : mg "range" = none
  len : mg "len" = none
  list : mg "list" = none
  min : mg "min" = none
  max : mg "max" = none
section
variable {P : Program} {w : World} {K : PySem.W.Frag} {mg : Str → Option Value} {base : Heap}
/-! ### sign_at -/
def spSign (K : PySem.W.Frag) : Sp := fun vs H Q _ => ∃ (a : Addr) (ns : List Int) (w c l : Nat) (v : Int), vs = [.ref a, .int (w : Int), .int (c : Int), .int (l : Int)] ∧ SqL K H a (ns.map V.int) ∧ w ≤ 10 ∧ l ≤ 20 ∧ ns[l * (2 * w + 2) + c]? = some v ∧ Q (.int v) H
theorem at_ints {ns : List Int} {z : Int} {j : Nat} {v : Int} (e : z = (j : Int)) (h : ns[j]? = some v) : atI (ns.map V.int) z = some (.int v) := at_of e (by rw [List.getElem?_map, h]; rfl)
theorem scSign : FnScope ["garden", "wide", "column", "line"] ["garden", "wide", "column", "line"] (defScope sSign) := ⟨rfl, rfl, rfl, by decide +kernel, rfl, by decide +kernel, by decide +kernel⟩
theorem ok_sign {f : Addr} {fd : FuncData} (F : Fun K "sign_at" "sign_at" sSign f fd) : FnOk P w K mg base CX0 1 f fd ["garden", "wide", "column", "line"] (spSign K) := by
  refine F.ok scSign (fun vs H Q E h => ?_) (fun cdv A outer s H vs Q E hr h => ?_)
  · obtain ⟨a, ns, w, c, l, v, rfl, _⟩ := h
    rfl
  · obtain ⟨a, ns, w, c, l, v, rfl, hS, hw, hl, hv, k⟩ := h
    refine ⟨_, pss_one (ps_ret (pe_ix ix_list (pv 0) (pe_op op_add (pe_op op_mul (pv 3) (pe_op op_add (pe_op op_mul pe_int (pv 1)) pe_int)) (pv 2)) (fun _ _ => rfl))), ?_⟩
    refine ⟨_, rfl, _, rfl, _, rfl, _, _, rfl, rfl, cmul_nat (n := 2) (by decide), _, _, rfl, rfl, _, _, rfl, rfl, cmul_nat (by omega), _, rfl, _, _, rfl, rfl, a, _, _, _, rfl, rfl, hS, at_ints ?_ hv, k⟩
    simp only [Int.natCast_add, Int.natCast_mul]
    rfl
/-! ### width_of, height_of -/
def spWidth (K : PySem.W.Frag) : Sp := fun vs H Q _ => ∃ (a : Addr) (ns : List Int), vs = [.ref a] ∧ SqL K H a (ns.map V.int) ∧ Q (.int (widthOf ns : Int)) H
def spHeight (K : PySem.W.Frag) : Sp := fun vs H Q _ => ∃ (a : Addr) (ns : List Int) (w : Nat), vs = [.ref a, .int (w : Int)] ∧ SqL K H a (ns.map V.int) ∧ w ≤ 10 ∧ Q (.int (heightOf ns w : Int)) H
theorem scWidth : FnScope ["garden", "wide", "end"] ["garden"] (defScope sWidth) := ⟨rfl, rfl, rfl, by decide +kernel, rfl, by decide +kernel, by decide +kernel⟩
theorem scHeight : FnScope ["garden", "wide", "high"] ["garden", "wide"] (defScope sHeight) := ⟨rfl, rfl, rfl, by decide +kernel, rfl, by decide +kernel, by decide +kernel⟩
theorem ok_width {f : Addr} {fd : FuncData} (F : Fun K "width_of" "width_of" sWidth f fd) (T : Txt mg) : FnOk P w K mg base CX0 1 f fd ["garden"] (spWidth K) := by
  refine F.ok scWidth (fun vs H Q E h => ?_) (fun cdv A outer s H vs Q E hr h => ?_)
  · obtain ⟨a, ns, rfl, _⟩ := h
    rfl
  · obtain ⟨a, ns, rfl, hS, k⟩ := h
    refine ⟨_, pss_cons (ps_for PassesOwn.never rfl (pi_range2 rfl T.range (pa_cons pe_int (pa_cons (pe_op op_add (pc_const rfl T.squares) pe_int) pa_nil))) (pg_name (i := 1) scWidth.nd rfl (Or.inl rfl))
        (pss_cons (ps_set (i := 2) scWidth.nd rfl (Or.inl rfl) (pe_op op_add (pe_op op_mul pe_int (pv 1)) pe_int))
        (pss_one (ps_if (PW.pt (pw_and (pt_cmp (pc_gt (pe_callB call_len_seq rfl T.len PySem.boot_len (pa_cons (pv 0) pa_nil)) (pv 2))) (pw_and1 (pt_cmp (pc_eqI (pe_ix ix_list (pv 0) (pv 2) (fun _ _ => rfl)) (pc_const rfl T.lineEnd))))))
          (pss_one (ps_ret (pv 1))) pss_nil))))
      (pss_one (ps_ret pe_int)), ?_⟩
    refine ⟨_, _, rfl, rfl, 1, 11, rfl, ⟨by decide, by decide, by decide, by decide⟩, for_range (lo := 1) (n := 10) (fun i σ H' => ∃ v1 v2 : Option V, σ = [some (.ref a), v1, v2] ∧ H' = H ∧ ∀ j, j < i → wTest ns j = false) ⟨_, _, rfl, rfl, fun j h => absurd h (Nat.not_lt_zero _)⟩ ?_ ?_⟩
    · rintro i σ H' hi ⟨v1, v2, rfl, rfl, hb⟩
      refine ⟨_, rfl, _, _, rfl, rfl, cmul_nat (n := 2) (by decide), _, _, rfl, rfl, ?_⟩
      refine ⟨_, rfl, a, _, rfl, .inl hS, _, rfl, _, _, rfl, rfl, _, rfl, ?_⟩
      rw [List.length_map]
      refine ite2 (fun h1 => ?_) (fun h1 => ?_)
      · have h1 := of_decide_eq_true h1
        have lt : 2 * (i + 1) + 1 < ns.length := by omega
        refine ⟨_, rfl, _, rfl, a, _, _, _, rfl, rfl, hS, at_ints (j := 2 * (i + 1) + 1) (by omega) (getD_at lt), _, _, rfl, rfl, _, rfl, ?_⟩
        refine ite2 (fun h2 => ?_) (fun h2 => ?_)
        · have h2 := of_decide_eq_true h2
          refine ⟨_, rfl, ?_⟩
          have e := width_hit hi (show wTest ns i = true by unfold wTest; rw [decide_eq_true lt, decide_eq_true h2]; rfl) hb
          rw [e] at k
          have e2 : (1 + (i : Int)) = ((i + 1 : Nat) : Int) := by omega
          show Q (.int (1 + (i : Int))) H'
          rw [e2]
          exact k
        · refine ⟨_, _, rfl, rfl, fun j hj => ?_⟩
          by_cases e : j = i
          · subst e
            unfold wTest
            rw [Bool.and_eq_false_iff]
            exact .inr (decide_eq_false fun z => h2 (decide_eq_true z))
          · exact hb j (by omega)
      · refine ite2 (fun h2 => absurd h2 Bool.false_ne_true) (fun _ => ?_)
        refine ⟨_, _, rfl, rfl, fun j hj => ?_⟩
        by_cases e : j = i
        · subst e
          unfold wTest
          rw [Bool.and_eq_false_iff]
          exact .inl (decide_eq_false fun z => h1 (decide_eq_true (by omega)))
        · exact hb j (by omega)
    · rintro σ H' ⟨v1, v2, rfl, rfl, hb⟩
      rw [width_miss hb] at k
      exact k
theorem ok_height {f : Addr} {fd : FuncData} (F : Fun K "height_of" "height_of" sHeight f fd) (T : Txt mg) : FnOk P w K mg base CX0 1 f fd ["garden", "wide"] (spHeight K) := by
  refine F.ok scHeight (fun vs H Q E h => ?_) (fun cdv A outer s H vs Q E hr h => ?_)
  · obtain ⟨a, ns, w, rfl, _⟩ := h
    rfl
  · obtain ⟨a, ns, w, rfl, hS, hw, k⟩ := h
    refine ⟨_, pss_cons (ps_for PassesOwn.never rfl (pi_range2 rfl T.range (pa_cons pe_int (pa_cons (pe_op op_add (pc_const rfl T.squares) pe_int) pa_nil))) (pg_name (i := 2) scHeight.nd rfl (Or.inl rfl))
        (pss_one (ps_if (pt_cmp (pc_eqI (pe_callB call_len_seq rfl T.len PySem.boot_len (pa_cons (pv 0) pa_nil)) (pe_op op_mul (pe_op op_add (pe_op op_mul pe_int (pv 2)) pe_int) (pe_op op_add (pe_op op_mul pe_int (pv 1)) pe_int))))
          (pss_one (ps_ret (pv 2))) pss_nil)))
      (pss_one (ps_ret pe_int)), ?_⟩
    refine ⟨_, _, rfl, rfl, 1, 11, rfl, ⟨by decide, by decide, by decide, by decide⟩, for_range (lo := 1) (n := 10) (fun i σ H' => ∃ v2 : Option V, σ = [some (.ref a), some (.int (w : Int)), v2] ∧ H' = H ∧ ∀ j, j < i → hTest ns w j = false) ⟨_, rfl, rfl, fun j h => absurd h (Nat.not_lt_zero _)⟩ ?_ ?_⟩
    · rintro i σ H' hi ⟨v2, rfl, rfl, hb⟩
      refine ⟨_, rfl, a, _, rfl, .inl hS, ?_⟩
      refine ⟨_, rfl, _, _, rfl, rfl, cmul_nat (n := 2) (by decide), _, _, rfl, rfl, _, rfl, _, _, rfl, rfl, cmul_nat (n := 2) (by decide), _, _, rfl, rfl, _, _, rfl, rfl, .inl ⟨by omega, by omega⟩, _, _, rfl, rfl, _, rfl, ?_⟩
      rw [List.length_map]
      have ec : (2 * (1 + (i : Int)) + 1) * (2 * (w : Int) + 2) = (((2 * (i + 1) + 1) * (2 * w + 2) : Nat) : Int) := by
        simp only [Int.natCast_add, Int.natCast_mul]
        have : (1 + (i : Int)) = (i : Int) + ((1 : Nat) : Int) := by omega
        rw [this]
        rfl
      have ed : ∀ c : Prop, [Decidable c] → (c ↔ ns.length = (2 * (i + 1) + 1) * (2 * w + 2)) → True := fun _ _ _ => trivial
      refine ite2 (fun h2 => ?_) (fun h2 => ?_)
      · have h2 := of_decide_eq_true h2
        have h3 : ns.length = (2 * (i + 1) + 1) * (2 * w + 2) := by rw [ec] at h2; exact Int.ofNat.inj h2
        refine ⟨_, rfl, ?_⟩
        rw [height_hit hi (decide_eq_true h3) hb] at k
        have e2 : (1 + (i : Int)) = ((i + 1 : Nat) : Int) := by omega
        show Q (.int (1 + (i : Int))) H'
        rw [e2]
        exact k
      · refine ⟨_, rfl, rfl, fun j hj => ?_⟩
        by_cases e : j = i
        · subst e
          exact decide_eq_false fun z => h2 (decide_eq_true (by rw [ec, z]))
        · exact hb j (by omega)
    · rintro σ H' ⟨v2, rfl, rfl, hb⟩
      rw [height_miss hb] at k
      exact k
/-! ### the signs that fit -/
def intV (l : List Int) : List V := l.map V.int
def spSide : Sp := fun vs H Q _ => ∃ (z : Int) (p l : Nat), vs = [.int z, .int (p : Int), .int (l : Int)] ∧ ∀ (H' : Hp) (q : Addr), H' q = some (.tup (intV (sideSigns z p l))) → Same H H' → Q (.ref q) H'
def spFit : Sp := fun vs H Q _ => ∃ (w h c l : Nat), vs = [.int (w : Int), .int (h : Int), .int (c : Int), .int (l : Int)] ∧ ∀ (H' : Hp) (q : Addr), H' q = some (.tup (intV (fitSigns w h c l))) → Same H H' → Q (.ref q) H'
theorem scSide : FnScope ["hedge", "place", "last"] ["hedge", "place", "last"] (defScope sSide) := ⟨rfl, rfl, rfl, by decide +kernel, rfl, by decide +kernel, by decide +kernel⟩
theorem scFit : FnScope ["wide", "high", "column", "line"] ["wide", "high", "column", "line"] (defScope sFit) := ⟨rfl, rfl, rfl, by decide +kernel, rfl, by decide +kernel, by decide +kernel⟩
theorem ok_side {f : Addr} {fd : FuncData} (F : Fun K "side_signs" "side_signs" sSide f fd) (T : Txt mg) : FnOk P w K mg base CX0 1 f fd ["hedge", "place", "last"] spSide := by
  refine F.ok scSide (fun vs H Q E h => ?_) (fun cdv A outer s H vs Q E hr h => ?_)
  · obtain ⟨z, p, l, rfl, _⟩ := h
    rfl
  · obtain ⟨z, p, l, rfl, k⟩ := h
    refine ⟨_, pss_cons (ps_if (PW.pt (pw_or (pt_cmp (pc_eqI (pv 1) pe_int)) (pw_or1 (pt_cmp (pc_eqI (pv 1) (pv 2)))))) (pss_one (ps_ret (pe_tup (pa_cons (pv 0) pa_nil)))) pss_nil)
      (pss_one (ps_ret (pe_tup (pa_cons (pv 0) (pa_cons (pc_const rfl T.blank) pa_nil))))), ?_⟩
    have one : (p = 0 ∨ p = l) → ∀ q : Addr, H q = none → Q (.ref q) (upd H q (.tup [.int z])) := fun hc q hq => k _ q (by rw [upd_same]; unfold sideSigns; rw [if_pos hc]; rfl) (upd_Same hq)
    refine ⟨_, rfl, _, _, rfl, rfl, _, rfl, ?_⟩
    refine ite2 (fun h1 => ?_) (fun h1 => ?_)
    · have h1 := of_decide_eq_true h1
      refine iteT ?_
      exact ⟨_, rfl, (show 1 ≤ sizeLine by decide), one (.inl (by omega))⟩
    · refine ⟨_, rfl, _, rfl, _, _, rfl, rfl, _, rfl, ?_⟩
      refine ite2 (fun h2 => ?_) (fun h2 => ?_)
      · have h2 := of_decide_eq_true h2
        exact ⟨_, rfl, (show 1 ≤ sizeLine by decide), one (.inr (by omega))⟩
      · refine ⟨_, rfl, (show 2 ≤ sizeLine by decide), fun q hq => k _ q ?_ (upd_Same hq)⟩
        rw [upd_same]
        unfold sideSigns
        rw [if_neg (fun z => z.elim (fun z => h1 (decide_eq_true (by omega))) (fun z => h2 (decide_eq_true (by omega))))]
        rfl
theorem emod2 (n : Nat) : ((n : Int) % 2 = 0 ↔ n % 2 = 0) ∧ ((n : Int) % 2 = 1 ↔ n % 2 = 1) := by omega
theorem ok_fit {f : Addr} {fd : FuncData} (F : Fun K "fitting_signs" "fitting_signs" sFit f fd) (T : Txt mg) (G : Fn P w K mg base 1 "side_signs" ["hedge", "place", "last"] spSide) : FnOk P w K mg base CX0 2 f fd ["wide", "high", "column", "line"] spFit := by
  refine F.ok scFit (fun vs H Q E h => ?_) (fun cdv A outer s H vs Q E hr h => ?_)
  · obtain ⟨w, h, c, l, rfl, _⟩ := h
    rfl
  · obtain ⟨w, h, c, l, rfl, k⟩ := h
    refine ⟨_, pss_cons (ps_if (pt_cmp (pc_eqI (pv 2) (pe_op op_add (pe_op op_mul pe_int (pv 0)) pe_int))) (pss_one (ps_ret (pe_tup (pa_cons (pc_const rfl T.lineEnd) pa_nil)))) pss_nil)
      (pss_cons (ps_if (PW.pt (pw_and (pt_cmp (pc_eqI (pe_op op_mod (pv 3) pe_int) pe_int)) (pw_and1 (pt_cmp (pc_eqI (pe_op op_mod (pv 2) pe_int) pe_int))))) (pss_one (ps_ret (pe_tup (pa_cons (pc_const rfl T.corner) pa_nil)))) pss_nil)
      (pss_cons (ps_if (PW.pt (pw_and (pt_cmp (pc_eqI (pe_op op_mod (pv 3) pe_int) pe_int)) (pw_and1 (pt_cmp (pc_eqI (pe_op op_mod (pv 2) pe_int) pe_int))))) (pss_one (ps_ret (pe_tup (pa_cons (pc_const rfl T.blank) pa_nil)))) pss_nil)
      (pss_cons (ps_if (pt_cmp (pc_eqI (pe_op op_mod (pv 3) pe_int) pe_int)) (pss_one (ps_ret (pe_fn G hr rfl (pa_cons (pc_const rfl T.level) (pa_cons (pv 3) (pa_cons (pe_op op_mul pe_int (pv 1)) pa_nil)))))) pss_nil)
      (pss_one (ps_ret (pe_fn G hr rfl (pa_cons (pc_const rfl T.upright) (pa_cons (pv 2) (pa_cons (pe_op op_mul pe_int (pv 0)) pa_nil))))))))), ?_⟩
    have one : ∀ v : Int, fitSigns w h c l = [v] → ∀ q : Addr, H q = none → Q (.ref q) (upd H q (.tup [.int v])) := fun v e q hq => k _ q (by rw [upd_same, e]; rfl) (upd_Same hq)
    have two : (0 : Int) < 2 := by decide
    refine ⟨_, rfl, _, rfl, _, _, rfl, rfl, cmul_nat (n := 2) (by decide), _, _, rfl, rfl, _, _, rfl, rfl, _, rfl, ?_⟩
    refine ite2 (fun h1 => ?_) (fun h1 => ?_)
    · have h1 := of_decide_eq_true h1
      have e1 : c = 2 * w + 1 := by omega
      exact ⟨(show 1 ≤ sizeLine by decide), one 10 (by unfold fitSigns; rw [if_pos e1])⟩
    · have e1 : ¬ c = 2 * w + 1 := fun z => h1 (decide_eq_true (by omega))
      -- corners
      refine ⟨_, rfl, _, _, rfl, rfl, two, _, _, rfl, rfl, _, rfl, ?_⟩
      have rest : ¬ (l % 2 = 0 ∧ c % 2 = 0) → tSeq (tIfS (tAnd (tB (tEqI (tOp (rI (fun _ j => 0 < j) fun i j => .int (i % j)) (tVar 3) (tC (.int 2))) (tC (.int 1)))) (tB (tEqI (tOp (rI (fun _ j => 0 < j) fun i j => .int (i % j)) (tVar 2) (tC (.int 2))) (tC (.int 1))))) (tRet (tTup (tCons (tC (.int 32)) tNil))) tNext)
          (tSeq (tIfS (tB (tEqI (tOp (rI (fun _ j => 0 < j) fun i j => .int (i % j)) (tVar 3) (tC (.int 2))) (tC (.int 0)))) (tRet (tCall spSide [] E0 (tCons (tC (.int 45)) (tCons (tVar 3) (tCons (tOp (rI CMul fun i j => .int (i * j)) (tC (.int 2)) (tVar 1)) tNil))))) tNext)
            (tRet (tCall spSide [] E0 (tCons (tC (.int 124)) (tCons (tVar 2) (tCons (tOp (rI CMul fun i j => .int (i * j)) (tC (.int 2)) (tVar 0)) tNil)))))) { nx := fun _ H' => Q .non H', rt := Q } [some (.int (w : Int)), some (.int (h : Int)), some (.int (c : Int)), some (.int (l : Int))] H := by
        intro e2
        refine ⟨_, rfl, _, _, rfl, rfl, two, _, _, rfl, rfl, _, rfl, ?_⟩
        have rest2 : ¬ (l % 2 = 1 ∧ c % 2 = 1) → tSeq (tIfS (tB (tEqI (tOp (rI (fun _ j => 0 < j) fun i j => .int (i % j)) (tVar 3) (tC (.int 2))) (tC (.int 0)))) (tRet (tCall spSide [] E0 (tCons (tC (.int 45)) (tCons (tVar 3) (tCons (tOp (rI CMul fun i j => .int (i * j)) (tC (.int 2)) (tVar 1)) tNil))))) tNext)
            (tRet (tCall spSide [] E0 (tCons (tC (.int 124)) (tCons (tVar 2) (tCons (tOp (rI CMul fun i j => .int (i * j)) (tC (.int 2)) (tVar 0)) tNil))))) { nx := fun _ H' => Q .non H', rt := Q } [some (.int (w : Int)), some (.int (h : Int)), some (.int (c : Int)), some (.int (l : Int))] H := by
          intro e3
          refine ⟨_, rfl, _, _, rfl, rfl, two, _, _, rfl, rfl, _, rfl, ?_⟩
          refine ite2 (fun h4 => ?_) (fun h4 => ?_)
          · have h4 := of_decide_eq_true h4
            have e4 : l % 2 = 0 := by omega
            refine ⟨_, rfl, _, rfl, _, _, rfl, rfl, cmul_nat (n := 2) (by decide), 45, l, 2 * h, rfl, fun H' q hq s => k H' q ?_ s⟩
            rw [hq]
            unfold fitSigns
            rw [if_neg e1, if_neg e2, if_neg e3, if_pos e4]
          · have e4 : ¬ l % 2 = 0 := fun z => h4 (decide_eq_true (by omega))
            refine ⟨_, rfl, _, rfl, _, _, rfl, rfl, cmul_nat (n := 2) (by decide), 124, c, 2 * w, rfl, fun H' q hq s => k H' q ?_ s⟩
            rw [hq]
            unfold fitSigns
            rw [if_neg e1, if_neg e2, if_neg e3, if_neg e4]
        refine ite2 (fun h2 => ?_) (fun h2 => ?_)
        · have h2 := of_decide_eq_true h2
          refine ⟨_, rfl, _, _, rfl, rfl, two, _, _, rfl, rfl, _, rfl, ?_⟩
          refine ite2 (fun h3 => ?_) (fun h3 => ?_)
          · have h3 := of_decide_eq_true h3
            exact ⟨(show 1 ≤ sizeLine by decide), one 32 (by unfold fitSigns; rw [if_neg e1, if_neg e2, if_pos ⟨by omega, by omega⟩])⟩
          · exact rest2 (fun z => h3 (decide_eq_true (by omega)))
        · refine iteF ?_
          exact rest2 (fun z => h2 (decide_eq_true (by omega)))
      refine ite2 (fun h2 => ?_) (fun h2 => ?_)
      · have h2 := of_decide_eq_true h2
        refine ⟨_, rfl, _, _, rfl, rfl, two, _, _, rfl, rfl, _, rfl, ?_⟩
        refine ite2 (fun h3 => ?_) (fun h3 => ?_)
        · have h3 := of_decide_eq_true h3
          exact ⟨(show 1 ≤ sizeLine by decide), one 43 (by unfold fitSigns; rw [if_neg e1, if_pos ⟨by omega, by omega⟩])⟩
        · exact rest (fun z => h3 (decide_eq_true (by omega)))
      · refine iteF ?_
        exact rest (fun z => h2 (decide_eq_true (by omega)))
/-! ### all_signs_fit -/
def spAll (K : PySem.W.Frag) : Sp := fun vs H Q _ => ∃ (a : Addr) (ns : List Int) (w h : Nat), vs = [.ref a, .int (w : Int), .int (h : Int)] ∧ SqL K H a (ns.map V.int) ∧ w ≤ 10 ∧ h ≤ 10 ∧ ns.length = (2 * h + 1) * (2 * w + 2) ∧
  ∀ (b : Bool) (H' : Hp), (b = true ↔ AllFit ns w h) → Same H H' → Q (.bl b) H'
theorem inV_ints {v : Int} : ∀ {l : List Int}, inV (.int v) (intV l) = decide (v ∈ l)
  | [] => by simp [inV, intV]
  | x :: l => by
    have ih := inV_ints (v := v) (l := l)
    unfold inV intV at ih ⊢
    rw [List.map_cons, List.any_cons, ih]
    have e : eqV (.int x) (.int v) = decide (v = x) := by
      show (x == v) = _
      by_cases z : v = x
      · subst z; simp
      · have z' : ¬ x = v := fun y => z y.symm
        simp [z, z']
    rw [e, ← Bool.decide_or]
    simp only [List.mem_cons]
theorem flat_ints : ∀ l : List Int, (intV l).all flatV = true
  | [] => rfl
  | _ :: l => by
    unfold intV
    rw [List.map_cons, List.all_cons]
    exact Bool.and_eq_true_iff.mpr ⟨rfl, flat_ints l⟩
theorem scAll : FnScope ["garden", "wide", "high", "line", "column"] ["garden", "wide", "high"] (defScope sAll) := ⟨rfl, rfl, rfl, by decide +kernel, rfl, by decide +kernel, by decide +kernel⟩
theorem ok_all {f : Addr} {fd : FuncData} (F : Fun K "all_signs_fit" "all_signs_fit" sAll f fd) (T : Txt mg) (G1 : Fn P w K mg base 1 "sign_at" ["garden", "wide", "column", "line"] (spSign K))
    (G2 : Fn P w K mg base 2 "fitting_signs" ["wide", "high", "column", "line"] spFit) : FnOk P w K mg base CX0 3 f fd ["garden", "wide", "high"] (spAll K) := by
  refine F.ok scAll (fun vs H Q E h => ?_) (fun cdv A outer s H vs Q E hr h => ?_)
  · obtain ⟨a, ns, w, h, rfl, _⟩ := h
    rfl
  · obtain ⟨a, ns, w, h, rfl, hS, hw, hh, hl, k⟩ := h
    have hr1 : Room 1 _ := hr.mono (by decide)
    refine ⟨_, pss_cons (ps_for PassesOwn.never rfl (pi_range1 rfl T.range (pa_cons (pe_op op_add (pe_op op_mul pe_int (pv 2)) pe_int) pa_nil)) (pg_name (i := 3) scAll.nd rfl (Or.inl rfl))
        (pss_one (ps_for PassesOwn.never rfl (pi_range1 rfl T.range (pa_cons (pe_op op_add (pe_op op_mul pe_int (pv 1)) pe_int) pa_nil)) (pg_name (i := 4) scAll.nd rfl (Or.inl rfl))
          (pss_one (ps_if (pt_cmpR op_notIn_seq (pe_fn G1 hr1 rfl (pa_cons (pv 0) (pa_cons (pv 1) (pa_cons (pv 4) (pa_cons (pv 3) pa_nil))))) (pe_fn G2 hr rfl (pa_cons (pv 1) (pa_cons (pv 2) (pa_cons (pv 4) (pa_cons (pv 3) pa_nil))))) (by with_unfolding_all rfl))
            (pss_one (ps_ret pe_bl)) pss_nil)))))
      (pss_one (ps_ret pe_bl)), ?_⟩
    refine ⟨_, rfl, _, _, rfl, rfl, cmul_nat (n := 2) (by decide), _, _, rfl, rfl, ((2 * h + 1 : Nat) : Int), by simp only [Int.natCast_add, Int.natCast_mul]; rfl, by omega, by omega, ?_⟩
    rw [Int.toNat_natCast]
    refine for_range (lo := 0) (n := 2 * h + 1) (fun i σ H' => ∃ v3 v4 : Option V, σ = [some (.ref a), some (.int (w : Int)), some (.int (h : Int)), v3, v4] ∧ Same H H' ∧ ∀ l c, l < i → c < 2 * w + 2 → ns.getD (l * (2 * w + 2) + c) 0 ∈ fitSigns w h c l) ⟨_, _, rfl, Same.refl H, fun l c hx => absurd hx (Nat.not_lt_zero _)⟩ ?_ ?_
    · rintro i σ H1 hi ⟨v3, v4, rfl, s1, hb⟩
      refine ⟨_, rfl, _, _, rfl, rfl, cmul_nat (n := 2) (by decide), _, _, rfl, rfl, ((2 * w + 2 : Nat) : Int), by simp only [Int.natCast_add, Int.natCast_mul]; rfl, by omega, by omega, ?_⟩
      rw [Int.toNat_natCast]
      refine for_range (lo := 0) (n := 2 * w + 2) (fun j σ H' => ∃ v4 : Option V, σ = [some (.ref a), some (.int (w : Int)), some (.int (h : Int)), some (.int (0 + (i : Int))), v4] ∧ Same H H' ∧ ∀ c, c < j → ns.getD (i * (2 * w + 2) + c) 0 ∈ fitSigns w h c i) ⟨_, rfl, s1, fun c hx => absurd hx (Nat.not_lt_zero _)⟩ ?_ ?_
      · rintro j σ H2 hj ⟨v4, rfl, s2, hc⟩
        have lt : i * (2 * w + 2) + j < ns.length := by rw [hl]; exact rc_lt hi hj
        have ei : (0 + (i : Int)) = (i : Int) := by omega
        have ej : (0 + (j : Int)) = (j : Int) := by omega
        rw [ei, ej]
        refine ⟨_, rfl, _, rfl, _, rfl, _, rfl, a, ns, w, j, i, _, rfl, s2.seq hS, hw, by omega, getD_at lt, ?_⟩
        refine ⟨_, rfl, _, rfl, _, rfl, _, rfl, w, h, j, i, rfl, fun H3 q hq s3 => ?_⟩
        refine ⟨q, _, rfl, .inr (SqT.of hq), rfl, flat_ints _, _, rfl, ?_⟩
        rw [inV_ints]
        have key : (if true = true then !decide (ns.getD (i * (2 * w + 2) + j) 0 ∈ fitSigns w h j i) else decide (ns.getD (i * (2 * w + 2) + j) 0 ∈ fitSigns w h j i)) = !decide (ns.getD (i * (2 * w + 2) + j) 0 ∈ fitSigns w h j i) := if_pos rfl
        rw [key]
        by_cases ok : ns.getD (i * (2 * w + 2) + j) 0 ∈ fitSigns w h j i
        · rw [decide_eq_true ok]
          refine iteF ?_
          refine ⟨_, rfl, s2.trans s3, fun c hlt => ?_⟩
          by_cases e : c = j
          · subst e; exact ok
          · exact hc c (by omega)
        · rw [decide_eq_false ok]
          refine iteT ?_
          exact k false H3 ⟨fun z => absurd z Bool.false_ne_true, fun z => absurd (z i j hi hj) ok⟩ (s2.trans s3)
      · rintro σ H2 ⟨v4, rfl, s2, hc⟩
        refine ⟨_, _, rfl, s2, fun l c hlt hcc => ?_⟩
        by_cases e : l = i
        · subst e; exact hc c hcc
        · exact hb l c (by omega) hcc
    · rintro σ H1 ⟨v3, v4, rfl, s1, hb⟩
      exact k true H1 ⟨fun _ l c hlt hcc => hb l c hlt hcc, fun _ => rfl⟩ s1
/-! ### is_drawing, refusal -/
def spDraw (K : PySem.W.Frag) : Sp := fun vs H Q _ => ∃ (a : Addr) (ns : List Int), vs = [.ref a] ∧ SqL K H a (ns.map V.int) ∧ Bytes01 ns ∧ ∀ (b : Bool) (H' : Hp), (b = true ↔ ∃ D, Maze.readDrawing (txt ns) = .ok D) → Same H H' → Q (.bl b) H'
def spRef (K : PySem.W.Frag) : Sp := fun vs H Q _ => ∃ (a : Addr) (ns : List Int), vs = [.ref a] ∧ SqL K H a (ns.map V.int) ∧ Bytes01 ns ∧ ∀ H' : Hp, Same H H' → Q (.int (refI ns)) H'
theorem scDraw : FnScope ["garden", "wide", "high"] ["garden"] (defScope sDrawing) := ⟨rfl, rfl, rfl, by decide +kernel, rfl, by decide +kernel, by decide +kernel⟩
theorem scRef : FnScope ["garden"] ["garden"] (defScope sRefusal) := ⟨rfl, rfl, rfl, by decide +kernel, rfl, by decide +kernel, by decide +kernel⟩
theorem ok_draw {f : Addr} {fd : FuncData} (F : Fun K "is_drawing" "is_drawing" sDrawing f fd) (T : Txt mg) (G1 : Fn P w K mg base 1 "width_of" ["garden"] (spWidth K)) (G2 : Fn P w K mg base 1 "height_of" ["garden", "wide"] (spHeight K))
    (G3 : Fn P w K mg base 3 "all_signs_fit" ["garden", "wide", "high"] (spAll K)) : FnOk P w K mg base CX0 4 f fd ["garden"] (spDraw K) := by
  refine F.ok scDraw (fun vs H Q E h => ?_) (fun cdv A outer s H vs Q E hr h => ?_)
  · obtain ⟨a, ns, rfl, _⟩ := h
    rfl
  · obtain ⟨a, ns, rfl, hS, hb, k⟩ := h
    have hr1 : Room 1 _ := hr.mono (by decide)
    have iff := drawing_iff hb
    refine ⟨_, pss_cons (ps_set (i := 1) scDraw.nd rfl (Or.inl rfl) (pe_fn G1 hr1 rfl (pa_cons (pv 0) pa_nil)))
      (pss_cons (ps_if (pt_cmp (pc_eqI (pv 1) pe_int)) (pss_one (ps_ret pe_bl)) pss_nil)
      (pss_cons (ps_set (i := 2) scDraw.nd rfl (Or.inl rfl) (pe_fn G2 hr1 rfl (pa_cons (pv 0) (pa_cons (pv 1) pa_nil))))
      (pss_cons (ps_if (pt_cmp (pc_eqI (pv 2) pe_int)) (pss_one (ps_ret pe_bl)) pss_nil)
      (pss_one (ps_ret (pe_fn G3 hr rfl (pa_cons (pv 0) (pa_cons (pv 1) (pa_cons (pv 2) pa_nil))))))))), ?_⟩
    refine ⟨_, rfl, a, ns, rfl, hS, ?_⟩
    refine ⟨_, rfl, _, _, rfl, rfl, _, rfl, ?_⟩
    refine ite2 (fun h1 => ?_) (fun h1 => ?_)
    · have h1 := of_decide_eq_true h1
      exact k false H ⟨fun z => absurd z Bool.false_ne_true, fun z => absurd (show widthOf ns = 0 by omega) (iff.mp z).1⟩ (Same.refl H)
    · have n1 : widthOf ns ≠ 0 := fun z => h1 (decide_eq_true (by rw [z]; rfl))
      refine ⟨_, rfl, _, rfl, a, ns, widthOf ns, rfl, hS, width_le ns, ?_⟩
      refine ⟨_, rfl, _, _, rfl, rfl, _, rfl, ?_⟩
      refine ite2 (fun h2 => ?_) (fun h2 => ?_)
      · have h2 := of_decide_eq_true h2
        exact k false H ⟨fun z => absurd z Bool.false_ne_true, fun z => absurd (show heightOf ns (widthOf ns) = 0 by omega) (iff.mp z).2.1⟩ (Same.refl H)
      · have n2 : heightOf ns (widthOf ns) ≠ 0 := fun z => h2 (decide_eq_true (by rw [z]; rfl))
        have hh := height_is n2
        refine ⟨_, rfl, _, rfl, _, rfl, a, ns, widthOf ns, heightOf ns (widthOf ns), rfl, hS, width_le ns, hh.1, hh.2, fun b H' hbb s => k b H' ?_ s⟩
        rw [hbb, iff]
        exact ⟨fun z => ⟨n1, n2, z⟩, fun z => z.2.2⟩
theorem ok_ref {f : Addr} {fd : FuncData} (F : Fun K "refusal" "refusal" sRefusal f fd) (T : Txt mg) (G : Fn P w K mg base 4 "is_drawing" ["garden"] (spDraw K)) : FnOk P w K mg base CX0 5 f fd ["garden"] (spRef K) := by
  refine F.ok scRef (fun vs H Q E h => ?_) (fun cdv A outer s H vs Q E hr h => ?_)
  · obtain ⟨a, ns, rfl, _⟩ := h
    rfl
  · obtain ⟨a, ns, rfl, hS, hb, k⟩ := h
    refine ⟨_, pss_cons (ps_if (pt_cmp (pc_gt (pe_callB call_len_seq rfl T.len PySem.boot_len (pa_cons (pv 0) pa_nil)) (pc_const rfl T.bytes))) (pss_one (ps_ret (pc_const rfl T.long))) pss_nil)
      (pss_cons (ps_if (pt_not (pt_val (pe_fn G hr rfl (pa_cons (pv 0) pa_nil)))) (pss_one (ps_ret (pc_const rfl T.fault))) pss_nil)
      (pss_one (ps_ret (pc_const rfl T.told)))), ?_⟩
    refine ⟨_, rfl, a, _, rfl, .inl hS, _, _, rfl, rfl, _, rfl, ?_⟩
    rw [List.length_map]
    have k0 : ∀ z : Int, refI ns = z → ∀ H' : Hp, Same H H' → Q (.int z) H' := fun z e H' s => by rw [← e]; exact k H' s
    refine ite2 (fun h1 => ?_) (fun h1 => ?_)
    · have h1 := of_decide_eq_true h1
      exact k0 (-2) (by unfold refI; rw [if_pos (by omega)]) H (Same.refl H)
    · have n1 : ¬ 1024 < ns.length := fun z => h1 (decide_eq_true (by omega))
      refine ⟨_, rfl, a, ns, rfl, hS, hb, fun b H' hbb s => ⟨b, rfl, ?_⟩⟩
      cases b with
      | true =>
        refine iteF ?_
        obtain ⟨D, hD⟩ := hbb.mp rfl
        exact k0 0 (by unfold refI; rw [if_neg n1, hD]) H' s
      | false =>
        refine iteT ?_
        refine k0 (-6) ?_ H' s
        unfold refI
        rw [if_neg n1]
        cases e : Maze.readDrawing (txt ns) with
        | error p => rfl
        | ok D => exact absurd (hbb.mpr ⟨D, e⟩) Bool.false_ne_true
/-! ### through_sides -/
structure Sides (K : PySem.W.Frag) (mg : Str → Option Value) : Prop where
  ex : ∃ (a b0 b1 b2 b3 : Addr), mg "SIDES" = some (.ref a) ∧ (∀ H : Hp, SqT K H a [.ref b0, .ref b1, .ref b2, .ref b3]) ∧ (∀ H : Hp, SqT K H b0 [.int 0, .int (-1)]) ∧ (∀ H : Hp, SqT K H b1 [.int 1, .int 0]) ∧ (∀ H : Hp, SqT K H b2 [.int 0, .int 1]) ∧ (∀ H : Hp, SqT K H b3 [.int (-1), .int 0])
def spThrough (K : PySem.W.Frag) : Sp := fun vs H Q _ => ∃ (a : Addr) (ns : List Int) (D : Garden) (u : Nat), vs = [.ref a, .int (D.wide : Int), .int (u : Int)] ∧ SqL K H a (ns.map V.int) ∧ Pic ns D ∧ u < D.squares ∧
  ∀ (H' : Hp) (p : Addr), H p = none → H' p = some (.lst (natV (D.outs u))) → Same H H' → Q (.ref p) H'
theorem sdy_le : ∀ i, -1 ≤ sdy i ∧ sdy i ≤ 1
  | 0 => ⟨by decide, by decide⟩
  | 1 => ⟨by decide, by decide⟩
  | 2 => ⟨by decide, by decide⟩
  | _ + 3 => ⟨by show (-1 : Int) ≤ 0; decide, by show (0 : Int) ≤ 1; decide⟩
theorem scThrough : FnScope ["garden", "wide", "square", "x", "y", "found", "side"] ["garden", "wide", "square"] (defScope sThrough) := ⟨rfl, rfl, rfl, by decide +kernel, rfl, by decide +kernel, by decide +kernel⟩
theorem ok_through {f : Addr} {fd : FuncData} (F : Fun K "through_sides" "through_sides" sThrough f fd) (T : Txt mg) (S : Sides K mg) (G : Fn P w K mg base 1 "sign_at" ["garden", "wide", "column", "line"] (spSign K)) :
    FnOk P w K mg base CX0 2 f fd ["garden", "wide", "square"] (spThrough K) := by
  refine F.ok scThrough (fun vs H Q E h => ?_) (fun cdv A outer s H vs Q E hr h => ?_)
  · obtain ⟨a, ns, D, u, rfl, _⟩ := h
    rfl
  · obtain ⟨a, ns, D, u, rfl, hS, hP, hu, k⟩ := h
    obtain ⟨sa, b0, b1, b2, b3, hsm, hsa, t0, t1, t2, t3⟩ := S.ex
    have w1 := hP.w1
    have w2 := hP.w2
    have h2 := hP.h2
    have hx : u % D.wide < D.wide := Nat.mod_lt _ w1
    have hy : u / D.wide < D.high := by
      rw [Nat.div_lt_iff_lt_mul w1, Nat.mul_comm]
      exact hu
    refine ⟨_, pss_cons (ps_set (i := 3) scThrough.nd rfl (Or.inl rfl) (pe_op op_mod (pv 2) (pv 1)))
      (pss_cons (ps_set (i := 4) scThrough.nd rfl (Or.inl rfl) (pe_op op_fdiv (pv 2) (pv 1)))
      (pss_cons (ps_set (i := 5) scThrough.nd rfl (Or.inl rfl) (pe_lst pa_nil))
      (pss_cons (ps_for PassesOwn.never rfl (pi_tup (pe_glob rfl hsm (v := .ref sa) rfl)) (pg_name (i := 6) scThrough.nd rfl (Or.inl rfl))
        (pss_one (ps_if (pt_cmp (pc_eqI (pe_fn G hr rfl (pa_cons (pv 0) (pa_cons (pv 1) (pa_cons (pe_op op_add (pe_op op_add (pe_op op_mul pe_int (pv 3)) pe_int) (pe_ix ix_tup (pv 6) pe_int (fun _ _ => rfl))) (pa_cons (pe_op op_add (pe_op op_add (pe_op op_mul pe_int (pv 4)) pe_int) (pe_ix ix_tup (pv 6) pe_int (fun _ _ => rfl))) pa_nil))))) (pc_const rfl T.blank)))
          (pss_one (ps_expr (pe_bm PySem.F.plainAttrs_list PySem.F.slot_list_append PySem.F.type_list_append mt_append (pv 5) (pa_cons (pe_op op_add (pe_op op_add (pe_op op_mul (pe_op op_add (pv 4) (pe_ix ix_tup (pv 6) pe_int (fun _ _ => rfl))) (pv 1)) (pv 3)) (pe_ix ix_tup (pv 6) pe_int (fun _ _ => rfl))) pa_nil)))) pss_nil)))
      (pss_one (ps_ret (pv 5)))))), ?_⟩
    refine ⟨_, rfl, _, rfl, _, _, rfl, rfl, (by show (0 : Int) < (D.wide : Int); omega), ?_⟩
    refine ⟨_, rfl, _, rfl, _, _, rfl, rfl, ⟨(by show (0 : Int) < (D.wide : Int); omega), (by show (D.wide : Int) < 1073741824; omega)⟩, ?_⟩
    refine ⟨Nat.zero_le _, fun p hp => ?_⟩
    obtain ⟨x, ex⟩ : ∃ x, u % D.wide = x := ⟨_, rfl⟩
    obtain ⟨y, ey⟩ : ∃ y, u / D.wide = y := ⟨_, rfl⟩
    rw [ex] at hx
    rw [ey] at hy
    have exi : (u : Int) % (D.wide : Int) = (x : Int) := by rw [← ex]; rfl
    have eyi : (u : Int) / (D.wide : Int) = (y : Int) := by rw [← ey]; rfl
    refine ⟨sa, rfl, ⟨_, hsa _⟩, for_tup (K := K) (a := sa) (xs := [.ref b0, .ref b1, .ref b2, .ref b3]) (fun i σ H' => ∃ v6 : Option V, σ = [some (.ref a), some (.int (D.wide : Int)), some (.int (u : Int)), some (.int (x : Int)), some (.int (y : Int)), some (.ref p), v6] ∧ Same H H' ∧ H' p = some (.lst (natV (outsTo D x y i))))
      ⟨none, by rw [← exi, ← eyi]; rfl, upd_Same hp, upd_same⟩ (fun i σ H' _ _ => hsa _) ?_ ?_⟩
    · rintro i t σ H1 hi ⟨v6, rfl, s1, h1⟩
      have i4 : i < 4 := (List.getElem?_eq_some_iff.mp hi).1
      obtain ⟨b, rfl, tb⟩ : ∃ b, t = V.ref b ∧ SqT K H1 b [.int (sdx i), .int (sdy i)] := by
        match i, i4, hi with
        | 0, _, hi => exact ⟨b0, (Option.some.inj hi).symm, t0 _⟩
        | 1, _, hi => exact ⟨b1, (Option.some.inj hi).symm, t1 _⟩
        | 2, _, hi => exact ⟨b2, (Option.some.inj hi).symm, t2 _⟩
        | 3, _, hi => exact ⟨b3, (Option.some.inj hi).symm, t3 _⟩
      obtain ⟨c, l, z, ec, el, hl, hz, hg, hv⟩ := side_fact hP hx hy i4
      have m0 : atI [V.int (sdx i), V.int (sdy i)] 0 = some (.int (sdx i)) := atI_nat (j := 0) rfl
      have m1 : atI [V.int (sdx i), V.int (sdy i)] 1 = some (.int (sdy i)) := atI_nat (j := 1) rfl
      have bd := sdy_le i
      refine ⟨_, rfl, _, rfl, _, rfl, _, _, rfl, rfl, cmul_nat (n := 2) (by decide), _, _, rfl, rfl, _, rfl, b, _, _, _, rfl, rfl, tb, m0, _, _, rfl, rfl, ?_⟩
      refine ⟨_, rfl, _, _, rfl, rfl, cmul_nat (n := 2) (by decide), _, _, rfl, rfl, _, rfl, b, _, _, _, rfl, rfl, tb, m1, _, _, rfl, rfl, ?_⟩
      refine ⟨a, ns, D.wide, c, l, z, (by show [V.ref a, V.int (D.wide : Int), V.int (2 * (x : Int) + 1 + sdx i), V.int (2 * (y : Int) + 1 + sdy i)] = _; rw [← ec, ← el]), s1.seq hS, w2, hl, hz, _, _, rfl, rfl, _, rfl, ?_⟩
      refine ite2 (fun g1 => ?_) (fun g1 => ?_)
      · have g : goB D x y i = true := hg.symm.trans g1
        refine ⟨_, rfl, .inl ⟨rfl, _, SqL.of h1⟩, ?_⟩
        refine ⟨_, rfl, _, rfl, b, _, _, _, rfl, rfl, tb, m1, _, _, rfl, rfl, _, rfl, _, _, rfl, rfl, .inl ⟨(by show -(2 ^ 64) < (y : Int) + sdy i; omega), (by show (y : Int) + sdy i < 2 ^ 64; omega)⟩, _, rfl, _, _, rfl, rfl, _, rfl, b, _, _, _, rfl, rfl, tb, m0, _, _, rfl, rfl, ?_⟩
        refine ⟨p, _, _, rfl, rfl, h1, ?_, ?_⟩
        · rw [natV_len]
          exact small1000 (Nat.le_trans (outsTo_len D x y i) (by omega))
        · refine ⟨_, rfl, Same.updN s1 hp, ?_⟩
          rw [upd_same, outsTo_succ, g]
          show some (HO.lst (natV (outsTo D x y i) ++ [V.int (((y : Int) + sdy i) * (D.wide : Int) + (x : Int) + sdx i)])) = some (HO.lst (natV (outsTo D x y i ++ [toN D x y i])))
          rw [hv g, natV_snoc]
      · have g : goB D x y i = false := by
          rw [← hg]
          exact Bool.eq_false_iff.mpr g1
        refine ⟨_, rfl, s1, ?_⟩
        rw [outsTo_succ, g]
        show _ = some (HO.lst (natV (outsTo D x y i ++ [])))
        rw [List.append_nil]
        exact h1
    · rintro σ H1 ⟨v6, rfl, s1, h1⟩
      refine ⟨_, rfl, k H1 p hp ?_ s1⟩
      have h1 : H1 p = some (.lst (natV (outsTo D x y 4))) := h1
      rw [h1, outs_to hx, ← ex, ← ey, Nat.div_add_mod']
/-! ### squares_beside -/
def spBeside (K : PySem.W.Frag) : Sp := fun vs H Q _ => ∃ (a : Addr) (ns : List Int) (D : Garden), vs = [.ref a] ∧ SqL K H a (ns.map V.int) ∧ Pic ns D ∧ ∀ (H' : Hp) (p : Addr) (as : List Addr), BesTo H' p as D D.squares → Same H H' → Q (.ref p) H'
theorem scBeside : FnScope ["garden", "wide", "high", "square"] ["garden"] (defScope sBeside) := ⟨rfl, rfl, rfl, by decide +kernel, rfl, by decide +kernel, by decide +kernel⟩
theorem ok_beside {f : Addr} {fd : FuncData} (F : Fun K "squares_beside" "squares_beside" sBeside f fd) (T : Txt mg) (G1 : Fn P w K mg base 1 "width_of" ["garden"] (spWidth K)) (G2 : Fn P w K mg base 1 "height_of" ["garden", "wide"] (spHeight K))
    (G3 : Fn P w K mg base 2 "through_sides" ["garden", "wide", "square"] (spThrough K)) : FnOk P w K mg base CX0 3 f fd ["garden"] (spBeside K) := by
  refine F.ok scBeside (fun vs H Q E h => ?_) (fun cdv A outer s H vs Q E hr h => ?_)
  · obtain ⟨a, ns, D, rfl, _⟩ := h
    rfl
  · obtain ⟨a, ns, D, rfl, hS, hP, k⟩ := h
    have hr1 : Room 1 _ := hr.mono (by decide)
    have w2 := hP.w2
    have hsq := hP.squares
    have esq : ((D.wide : Int) * (D.high : Int)) = (D.squares : Int) := (Int.natCast_mul _ _).symm
    refine ⟨_, pss_cons (ps_set (i := 1) scBeside.nd rfl (Or.inr rfl) (pe_fn G1 hr1 rfl (pa_cons (pv 0) pa_nil)))
      (pss_cons (ps_set (i := 2) scBeside.nd rfl (Or.inl rfl) (pe_fn G2 hr1 rfl (pa_cons (pv 0) (pa_cons (pv 1) pa_nil))))
      (pss_one (ps_ret (pe_lc (own := [("square", 3)]) rfl scBeside.nd (pi_range1 rfl T.range (pa_cons (pe_op op_mul (pv 1) (pv 2)) pa_nil)) (blkOk_by (show blkC ["garden", "wide", "high", "square"] (defScope sBeside) _ [("square", 3)] = true by decide +kernel))
          (fun _ _ _ _ _ => pg_name (i := 3) scBeside.nd rfl (Or.inl rfl)) (fun _ _ _ _ _ => pts_nil) (fun _ _ _ _ _ => pe_fn G3 hr rfl (pa_cons (pv 0) (pa_cons (pv 1) (pa_cons (pv 3) pa_nil)))))))), ?_⟩
    refine ⟨_, rfl, a, ns, rfl, hS, ?_⟩
    rw [hP.width]
    refine ⟨_, rfl, _, rfl, a, ns, D.wide, rfl, hS, hP.w2, ?_⟩
    rw [hP.height]
    refine ⟨_, rfl, _, rfl, _, _, rfl, rfl, cmul_nat (by omega), (D.squares : Int), (by show [V.int ((D.wide : Int) * (D.high : Int))] = _; rw [esq]), by omega, by omega, fun d hd => ?_⟩
    rw [Int.toNat_natCast]
    refine lc_range (lo := 0) (n := D.squares) (fun i H' => ∃ as : List Addr, Same H H' ∧ BesTo H' d as D i) ⟨[], upd_Same hd, BesTo.nil upd_same⟩ ?_ ?_
    · rintro i H1 hi ⟨as, s1, B⟩
      refine ⟨rfl, ?_⟩
      refine ⟨_, rfl, _, rfl, _, rfl, a, ns, D, i, (by show [V.ref a, V.int (D.wide : Int), V.int (0 + (i : Int))] = _; rw [Int.zero_add]), s1.seq hS, hP, hi, fun H2 p hp0 hp s2 => ?_⟩
      refine ⟨_, s2 _ _ B.lst, ?_, as ++ [p], Same.updN (s1.trans s2) hd, B.push s2 hp0 hp⟩
      rw [List.length_map, B.len]
      exact small1000 (by omega)
    · rintro H1 ⟨as, s1, B⟩
      exact k H1 d as B s1
/-! ### steps_from -/
def spSteps : Sp := fun vs H Q _ => ∃ (u : Nat) (p : Addr) (as : List Addr) (D : Garden), vs = [.int (u : Int), .ref p] ∧ BesTo H p as D D.squares ∧ D.squares ≤ 100 ∧ u < D.squares ∧
  ∀ (H' : Hp) (q : Addr), H' q = some (.lst ((stI (D.fars u)).map V.int)) → Same H H' → Q (.ref q) H'
/-- between two waves -/
def StW (H : Hp) (D : Garden) (u : Nat) (p q : Addr) (k : Nat) (σ : L2.St) (H' : Hp) : Prop := ∃ (d : Nat) (front : List Nat) (m : List (Option Nat)) (o : Addr) (v4 v5 v6 : Option V), σ = [some (.int (u : Int)), some (.ref p), some (.ref q), some (.ref o), v4, v5, v6] ∧ Same H H' ∧
  H' q = some (.lst ((stI m).map V.int)) ∧ H' o = some (.lst (natV front)) ∧ o ≠ q ∧ WaveInv D u D.squares d front m ∧ k = 2 * m.countP Option.isNone + front.length
theorem at_stI {m : List (Option Nat)} {t : Nat} (h : t < m.length) : atI ((stI m).map V.int) (t : Int) = some (.int (stp (mkd m t))) := at_ints rfl (stI_at h)
theorem scSteps : FnScope ["start", "beside", "steps", "outermost", "further", "square", "other"] ["start", "beside"] (defScope sSteps) := ⟨rfl, rfl, rfl, by decide +kernel, rfl, by decide +kernel, by decide +kernel⟩
theorem ok_steps {f : Addr} {fd : FuncData} (F : Fun K "steps_from" "steps_from" sSteps f fd) (T : Txt mg) (hun : Const mg "UNREACHED" (-1)) : FnOk P w K mg base CX0 1 f fd ["start", "beside"] spSteps := by
  refine F.ok scSteps (fun vs H Q E h => ?_) (fun cdv A outer s H vs Q E hr h => ?_)
  · obtain ⟨u, p, as, D, rfl, _⟩ := h
    rfl
  · obtain ⟨u, p, as, D, rfl, B, hsq, hu, k⟩ := h
    have hn := outs_lt D
    refine ⟨_, pss_cons (ps_setLc (i := 2) (own := [("square", 5)]) rfl scSteps.nd rfl rfl (sw_true rfl rfl rfl rfl) (pi_list (pv 1)) (blkOk_by (show blkC ["start", "beside", "steps", "outermost", "further", "square", "other"] (defScope sSteps) _ [("square", 5)] = true by decide +kernel))
          (fun _ _ _ _ _ => pg_name (i := 5) scSteps.nd rfl (Or.inl rfl)) (fun _ _ _ _ _ => pts_nil) (fun _ _ _ _ _ => pc_const rfl hun))
      (pss_cons (ps_asg pe_int (pg_sub (pv 2) (pv 0) set_list))
      (pss_cons (ps_set (i := 3) scSteps.nd rfl (Or.inl rfl) (pe_lst (pa_cons (pv 0) pa_nil)))
      (pss_cons (ps_while PassesOwn.never (pt_cmp (pc_gt (pe_callB call_len_seq rfl T.len PySem.boot_len (pa_cons (pv 3) pa_nil)) pe_int))
        (pss_cons (ps_set (i := 4) scSteps.nd rfl (Or.inl rfl) (pe_lst pa_nil))
        (pss_cons (ps_for PassesOwn.never rfl (pi_list (pv 3)) (pg_name (i := 5) scSteps.nd rfl (Or.inl rfl))
          (pss_one (ps_for PassesOwn.never rfl (pi_list (pe_ix ix_list (pv 1) (pv 5) (fun _ _ => rfl))) (pg_name (i := 6) scSteps.nd rfl (Or.inl rfl))
            (pss_one (ps_if (pt_cmp (pc_eqI (pe_ix ix_list (pv 2) (pv 6) (fun _ _ => rfl)) (pc_const rfl hun)))
              (pss_cons (ps_asg (pe_op op_add (pe_ix ix_list (pv 2) (pv 5) (fun _ _ => rfl)) pe_int) (pg_sub (pv 2) (pv 6) set_list))
              (pss_one (ps_expr (pe_bm PySem.F.plainAttrs_list PySem.F.slot_list_append PySem.F.type_list_append mt_append (pv 4) (pa_cons (pv 6) pa_nil))))) pss_nil)))))
        (pss_one (ps_set (i := 3) scSteps.nd rfl (Or.inl rfl) (pv 4))))))
      (pss_one (ps_ret (pv 2)))))), ?_⟩
    -- steps = [UNREACHED ..]
    refine ⟨_, rfl, p, rfl, ⟨_, SqL.of B.lst⟩, fun q hq0 => ?_⟩
    refine lc_list (K := K) (a := p) (xs := as.map V.ref) (fun j H' => Same H H' ∧ H' q = some (.lst ((List.replicate j (-1 : Int)).map V.int))) ⟨upd_Same hq0, upd_same⟩ (fun j H' _ ⟨s2, _⟩ => SqL.of (s2 _ _ B.lst)) ?_ ?_
    · rintro j x H2 hj ⟨s2, hq2⟩
      have jl : j < D.squares := by
        have := (List.getElem?_eq_some_iff.mp hj).1
        rw [List.length_map, B.len] at this
        exact this
      refine ⟨rfl, ?_⟩
      refine ⟨_, hq2, ?_, Same.updN s2 hq0, ?_⟩
      · rw [List.length_map, List.length_replicate]
        exact small1000 (by omega)
      · rw [upd_same, List.replicate_succ', List.map_append]
        rfl
    · rintro H1 ⟨s1, hq1⟩
      rw [List.length_map, B.len] at hq1
      -- steps[start] = 0
      refine ⟨_, rfl, _, rfl, q, _, _, u, rfl, rfl, hq1, ixN_nat (by rw [List.length_map, List.length_replicate]; exact hu), ?_⟩
      have e0 : ((List.replicate D.squares (-1 : Int)).map V.int).set u (.int 0) = (stI ((List.replicate D.squares none).set u (some 0))).map V.int := by
        rw [← stI_set, stI_rep, List.map_set]
        rfl
      rw [e0]
      have s2 : Same H (upd H1 q (.lst ((stI ((List.replicate D.squares none).set u (some 0))).map V.int))) := Same.updN s1 hq0
      -- outermost = [start]
      refine ⟨_, rfl, (show 1 ≤ sizeLine by decide), fun o ho => ?_⟩
      have oq : o ≠ q := fun z => by rw [z, upd_same] at ho; cases ho
      refine ⟨StW H D u p q, ⟨_, 0, [u], (List.replicate D.squares none).set u (some 0), o, _, _, _, rfl, s2.trans (upd_Same ho), by rw [upd_ne (Ne.symm oq), upd_same], upd_same, oq, WaveInv.start hu, rfl⟩, ?_⟩
      rintro kk σ H1 ⟨d, front, m, o, v4, v5, v6, rfl, s1, hq1, ho1, oq, I, rfl⟩
      refine ⟨_, rfl, o, _, rfl, .inl (SqL.of ho1), _, _, rfl, rfl, _, rfl, ?_⟩
      rw [natV_len]
      refine ite2 (fun g1 => ?_) (fun g1 => ?_)
      · have g1 := of_decide_eq_true g1
        refine ⟨fun σ' H' => ∃ k', k' < 2 * m.countP Option.isNone + front.length ∧ StW H D u p q k' σ' H', fun _ _ z => z, ?_⟩
        -- further = []
        refine ⟨Nat.zero_le _, fun r hr0 => ?_⟩
        have rq : r ≠ q := fun z => by rw [z, hq1] at hr0; cases hr0
        have ro : r ≠ o := fun z => by rw [z, ho1] at hr0; cases hr0
        have hrH : H r = none := s1.free hr0
        refine ⟨_, rfl, o, rfl, ⟨_, SqL.of (by rw [upd_ne (Ne.symm ro)]; exact ho1)⟩, for_list (K := K) (a := o) (xs := natV front) (fun i σ H' => ∃ v5 v6 : Option V, σ = [some (.int (u : Int)), some (.ref p), some (.ref q), some (.ref o), some (.ref r), v5, v6] ∧ Same H H' ∧ H' o = some (.lst (natV front)) ∧
            H' q = some (.lst ((stI (waved D d m (gone D front i)).2).map V.int)) ∧ H' r = some (.lst (natV (waved D d m (gone D front i)).1.reverse)))
          ⟨_, _, rfl, s1.trans (upd_Same hr0), by rw [upd_ne (Ne.symm ro)]; exact ho1, by rw [upd_ne (Ne.symm rq)]; exact hq1, upd_same⟩ (fun i σ H' _ ⟨_, _, _, _, z, _⟩ => SqL.of z) ?_ ?_⟩
        · rintro i y σ H2 hi ⟨v5, v6, rfl, s2, ho2, hq2, hr2⟩
          obtain ⟨c, hc, rfl⟩ := natV_get hi
          have hcf : c ∈ front := List.mem_of_getElem? hc
          have lc : c < D.squares := I.lt hcf
          obtain ⟨ac, hac, hacH⟩ := B.get lc
          have gl := gone_lt hn I (i + 1)
          rw [gone_succ hc] at gl
          refine ⟨_, rfl, _, rfl, p, _, _, _, rfl, rfl, SqL.of (s2 _ _ B.lst), at_ref hac, ac, rfl, ⟨_, SqL.of (s2 _ _ hacH)⟩, for_list (K := K) (a := ac) (xs := natV (D.outs c)) (fun j σ H' => ∃ v6 : Option V, σ = [some (.int (u : Int)), some (.ref p), some (.ref q), some (.ref o), some (.ref r), some (.int (c : Int)), v6] ∧ Same H H' ∧ H' o = some (.lst (natV front)) ∧
              H' q = some (.lst ((stI (waved D d m (gone D front i ++ (D.outs c).take j)).2).map V.int)) ∧ H' r = some (.lst (natV (waved D d m (gone D front i ++ (D.outs c).take j)).1.reverse)))
            ⟨_, rfl, s2, ho2, by rw [List.take_zero, List.append_nil]; exact hq2, by rw [List.take_zero, List.append_nil]; exact hr2⟩ (fun j σ H' _ ⟨_, _, z, _⟩ => SqL.of (z _ _ hacH)) ?_ ?_⟩
          · rintro j y σ H3 hj ⟨v6, rfl, s3, ho3, hq3, hr3⟩
            obtain ⟨t, ht, rfl⟩ := natV_get hj
            have lt : t < D.squares := hn c t lc (List.mem_of_getElem? ht)
            have W : Waved D D.squares d front m (waved D d m (gone D front i ++ (D.outs c).take j)) := I.waved fun v hv => gl v (by
              rcases List.mem_append.mp hv with z | z
              · exact List.mem_append_left _ z
              · exact List.mem_append_right _ (List.mem_of_mem_take z))
            have cc := W.cnt
            have cl := count_le m
            rw [I.len] at cl
            have fc := W.front c hcf
            rw [take_snoc ht]
            generalize gone D front i ++ (D.outs c).take j = ts at *
            refine ⟨_, rfl, _, rfl, q, _, _, _, rfl, rfl, SqL.of hq3, at_stI (by rw [W.len]; exact lt), _, _, rfl, rfl, _, rfl, ?_⟩
            refine ite2 (fun g2 => ?_) (fun g2 => ?_)
            · have g2 := stp_none.mp (of_decide_eq_true g2)
              rw [waved_new g2]
              refine ⟨_, rfl, _, rfl, q, _, _, _, rfl, rfl, SqL.of hq3, at_stI (by rw [W.len]; exact lc), _, _, rfl, rfl, ?_⟩
              refine ⟨_, rfl, _, rfl, q, _, _, t, rfl, rfl, hq3, ixN_nat (by rw [List.length_map, stI_len, W.len]; exact lt), ?_⟩
              have e1 : ((stI (waved D d m ts).2).map V.int).set t (.int (stp (mkd (waved D d m ts).2 c) + 1)) = (stI ((waved D d m ts).2.set t (some (d + 1)))).map V.int := by
                rw [fc, ← stI_set, List.map_set]
                rfl
              rw [e1]
              refine ⟨_, rfl, .inl ⟨rfl, _, SqL.of (by rw [upd_ne rq]; exact hr3)⟩, _, rfl, r, _, _, rfl, rfl, by rw [upd_ne rq]; exact hr3, ?_, ?_⟩
              · rw [natV_len, List.length_reverse]
                exact small1000 (by omega)
              · refine ⟨_, rfl, Same.updN (Same.updN s3 hq0) hrH, by rw [upd_ne (Ne.symm ro), upd_ne oq]; exact ho3, by rw [upd_ne (Ne.symm rq), upd_same], ?_⟩
                rw [upd_same, List.reverse_cons, natV_snoc]
            · have g3 : mkd (waved D d m ts).2 t ≠ none := fun z => g2 (decide_eq_true (stp_none.mpr z))
              rw [waved_old g3]
              exact ⟨_, rfl, s3, ho3, hq3, hr3⟩
          · rintro σ H3 ⟨v6, rfl, s3, ho3, hq3, hr3⟩
            rw [natV_len, List.take_length, ← gone_succ hc] at hq3 hr3
            exact ⟨_, _, rfl, s3, ho3, hq3, hr3⟩
        · rintro σ H2 ⟨v5, v6, rfl, s2, ho2, hq2, hr2⟩
          rw [natV_len] at hq2 hr2
          have W : Waved D D.squares d front m (waved D d m (gone D front front.length)) := I.waved (gone_lt hn I _)
          have cc := W.cnt
          refine ⟨_, rfl, _, ?_, d + 1, _, _, r, _, _, _, rfl, s2, hq2, hr2, rq, I.turn hn hu, rfl⟩
          rw [List.length_reverse]
          omega
      · have e : front = [] := by
          cases front with
          | nil => rfl
          | cons a l => exact absurd (decide_eq_true (by rw [List.length_cons]; omega)) g1
        subst e
        rw [I.fars hu] at hq1
        exact ⟨_, rfl, k H1 q hq1 s1⟩
/-! ### far -/
def spFar (K : PySem.W.Frag) : Sp := fun vs H Q _ => ∃ (x u : Nat) (a : Addr) (ns : List Int), vs = [.int (x : Int), .int (u : Int), .ref a] ∧ SqL K H a (ns.map V.int) ∧ Bytes01 ns ∧ ∀ (H' : Hp) (p : Addr), H' p = some (.lst ((PyWqbacn.far (x : Int) (u : Int) ns).map V.int)) → Q (.ref p) H'
theorem scFar : FnScope ["s", "u", "garden", "refused", "beside", "steps"] ["s", "u", "garden"] (defScope sFar) := ⟨rfl, rfl, rfl, by decide +kernel, rfl, by decide +kernel, by decide +kernel⟩
theorem ok_far {f : Addr} {fd : FuncData} (F : Fun K "far" "far" sFar f fd) (T : Txt mg) (hno : Const mg "NO_SUCH_SQUARE" (-4)) (hnw : Const mg "NO_WAY" (-5)) (hun : Const mg "UNREACHED" (-1)) (G0 : Fn P w K mg base 5 "refusal" ["garden"] (spRef K)) (G1 : Fn P w K mg base 3 "squares_beside" ["garden"] (spBeside K)) (G2 : Fn P w K mg base 1 "steps_from" ["start", "beside"] spSteps) :
    FnOk P w K mg base CX0 6 f fd ["s", "u", "garden"] (spFar K) := by
  refine F.ok scFar (fun vs H Q E h => ?_) (fun cdv A outer s H vs Q E hr h => ?_)
  · obtain ⟨x, u, a, ns, rfl, _⟩ := h
    rfl
  · obtain ⟨x, u, a, ns, rfl, hS, hb, k⟩ := h
    have hr1 : Room 1 _ := hr.mono (by decide)
    have hr3 : Room 3 _ := hr.mono (by decide)
    refine ⟨_, pss_cons (ps_set (i := 3) scFar.nd rfl (Or.inl rfl) (pe_fn G0 hr rfl (pa_cons (pv 2) pa_nil)))
      (pss_cons (ps_if (pt_cmp (pc_neI (pv 3) (pc_const rfl T.told))) (pss_one (ps_ret (pe_lst (pa_cons (pv 3) pa_nil)))) pss_nil)
      (pss_cons (ps_set (i := 4) scFar.nd rfl (Or.inl rfl) (pe_fn G1 hr3 rfl (pa_cons (pv 2) pa_nil)))
      (pss_cons (ps_if (pt_cmp (pc_ge (pe_callB (call_max2 rfl) rfl T.max boot_max (pa_cons (pv 0) (pa_cons (pv 1) pa_nil))) (pe_callB call_len_seq rfl T.len PySem.boot_len (pa_cons (pv 4) pa_nil)))) (pss_one (ps_ret (pe_lst (pa_cons (pc_const rfl hno) pa_nil)))) pss_nil)
      (pss_cons (ps_set (i := 5) scFar.nd rfl (Or.inl rfl) (pe_fn G2 hr1 rfl (pa_cons (pv 0) (pa_cons (pv 4) pa_nil))))
      (pss_cons (ps_if (pt_cmp (pc_eqI (pe_ix ix_list (pv 5) (pv 1) (fun _ _ => rfl)) (pc_const rfl hun))) (pss_one (ps_ret (pe_lst (pa_cons (pc_const rfl hnw) pa_nil)))) pss_nil)
      (pss_one (ps_ret (pe_lst (pa_cons (pc_const rfl T.told) (pa_cons (pe_ix ix_list (pv 5) (pv 1) (fun _ _ => rfl)) pa_nil)))))))))), ?_⟩
    refine ⟨_, rfl, a, ns, rfl, hS, hb, fun H1 s1 => ?_⟩
    refine ⟨_, rfl, _, _, rfl, rfl, _, rfl, ?_⟩
    refine ite2 (fun h1 => ?_) (fun h1 => ?_)
    · have h1 : (!decide (refI ns = 0)) = true := h1
      have h0 : refI ns ≠ 0 := fun z => by rw [decide_eq_true z] at h1; cases h1
      refine ⟨_, rfl, (show 1 ≤ sizeLine by decide), fun p hp => k _ p ?_⟩
      rw [upd_same, far_refused h0]
      rfl
    · have h0 : refI ns = 0 := Decidable.byContradiction fun z => h1 (by show (!decide (refI ns = 0)) = true; rw [decide_eq_false z]; rfl)
      obtain ⟨D, hP⟩ : ∃ D, Pic ns D := by
        rcases ref_cases ns with ⟨e, _⟩ | ⟨e, _⟩ | ⟨_, _, D, e⟩
        · rw [e] at h0; exact absurd h0 (by decide)
        · rw [e] at h0; exact absurd h0 (by decide)
        · exact ⟨D, hb, e⟩
      have hsq := hP.squares
      refine ⟨_, rfl, a, ns, D, rfl, s1.seq hS, hP, fun H2 p as B s2 => ?_⟩
      refine ⟨_, rfl, _, rfl, _, _, rfl, _, rfl, p, _, rfl, .inl (SqL.of B.lst), _, _, rfl, rfl, _, rfl, ?_⟩
      rw [max_cast, List.length_map, B.len]
      refine ite2 (fun h1 => ?_) (fun h1 => ?_)
      · have h1 := of_decide_eq_true h1
        refine ⟨(show 1 ≤ sizeLine by decide), fun p hp => k _ p ?_⟩
        rw [upd_same, far_nosquare h0 hP (by omega)]
        rfl
      · have hxu : max x u < D.squares := by
          rcases Nat.lt_or_ge (max x u) D.squares with z | z
          · exact z
          · exact absurd (decide_eq_true (by omega)) h1
        have hx : x < D.squares := by omega
        have hu : u < D.squares := by omega
        have F := fars_spec (outs_lt D) hx
        refine ⟨_, rfl, _, rfl, x, p, as, D, rfl, B, hsq, hx, fun H3 q hq s3 => ?_⟩
        have at3 := at_stI (m := D.fars x) (t := u) (by rw [F.1]; exact hu)
        refine ⟨_, rfl, _, rfl, q, _, _, _, rfl, rfl, SqL.of hq, at3, _, _, rfl, rfl, _, rfl, ?_⟩
        refine ite2 (fun h2 => ?_) (fun h2 => ?_)
        · have h2 := stp_none.mp (of_decide_eq_true h2)
          refine ⟨(show 1 ≤ sizeLine by decide), fun p hp => k _ p ?_⟩
          rw [upd_same, far_noway h0 hP hx hu ((far_none hx hu).mp h2)]
          rfl
        · refine ⟨_, rfl, _, rfl, q, _, _, _, rfl, rfl, SqL.of hq, at3, (show 2 ≤ sizeLine by decide), fun p hp => k _ p ?_⟩
          rw [upd_same]
          cases e : mkd (D.fars x) u with
          | none => exact absurd (decide_eq_true (stp_none.mpr e)) h2
          | some n =>
            rw [far_told h0 hP hx hu ((F.2 u n hu).mp e)]
            rfl
end
/-! ### what the top has written -/
theorem all_mk {P : Program} {w : World} {K : PySem.W.Frag} {h : Heap} {mg : Str → Option Value} {fa : Addr} (X : K.In h) (G : h.Ns mainGlobals mg) (hfa : mg "far" = some (.ref fa))
    {od0 an0 : Option Addr} {sl0 : Array (Option Value)} {oc0 kV0 dc0 pm0 cd0 ct0 : Value} {f0 : Addr} {od1 an1 : Option Addr} {sl1 : Array (Option Value)} {oc1 kV1 dc1 pm1 cd1 ct1 : Value} {f1 : Addr} {od2 an2 : Option Addr} {sl2 : Array (Option Value)} {oc2 kV2 dc2 pm2 cd2 ct2 : Value} {f2 : Addr} {od3 an3 : Option Addr} {sl3 : Array (Option Value)} {oc3 kV3 dc3 pm3 cd3 ct3 : Value} {f3 : Addr} {od4 an4 : Option Addr} {sl4 : Array (Option Value)} {oc4 kV4 dc4 pm4 cd4 ct4 : Value} {f4 : Addr} {od5 an5 : Option Addr} {sl5 : Array (Option Value)} {oc5 kV5 dc5 pm5 cd5 ct5 : Value} {f5 : Addr} {od6 an6 : Option Addr} {sl6 : Array (Option Value)} {oc6 kV6 dc6 pm6 cd6 ct6 : Value} {f6 : Addr} {od7 an7 : Option Addr} {sl7 : Array (Option Value)} {oc7 kV7 dc7 pm7 cd7 ct7 : Value} {f7 : Addr} {od8 an8 : Option Addr} {sl8 : Array (Option Value)} {oc8 kV8 dc8 pm8 cd8 ct8 : Value} {f8 : Addr} {od9 an9 : Option Addr} {sl9 : Array (Option Value)} {oc9 kV9 dc9 pm9 cd9 ct9 : Value} {f9 : Addr} {od10 an10 : Option Addr} {sl10 : Array (Option Value)} {oc10 kV10 dc10 pm10 cd10 ct10 : Value} {f10 : Addr} {od11 an11 : Option Addr} {sl11 : Array (Option Value)} {oc11 kV11 dc11 pm11 cd11 ct11 : Value} {f11 : Addr} {sa sb0 sb1 sb2 sb3 : Addr} {sd sd0 sd1 sd2 sd3 : Option Addr} {ss ss0 ss1 ss2 ss3 : Array (Option Value)} {sn sn0 sn1 sn2 sn3 : Nat} {sx0 sy0 : Tok} {sx1 sy1 : Tok} {sx2 sy2 : Tok} {sx3 sy3 : Tok} {t0 : Tok} {t1 : Tok} {t2 : Tok} {t3 : Tok} {t4 : Tok} {t5 : Tok} {t6 : Tok} {t7 : Tok} {t8 : Tok} {t9 : Tok} {t10 : Tok} {t11 : Tok} {t12 : Tok}
    (g0 : PySem.W.nsIn K mainGlobals "LINE_END" = some (some (.int (10) t0)))
    (g1 : PySem.W.nsIn K mainGlobals "BLANK" = some (some (.int (32) t1)))
    (g2 : PySem.W.nsIn K mainGlobals "CORNER" = some (some (.int (43) t2)))
    (g3 : PySem.W.nsIn K mainGlobals "LEVEL_HEDGE" = some (some (.int (45) t3)))
    (g4 : PySem.W.nsIn K mainGlobals "UPRIGHT_HEDGE" = some (some (.int (124) t4)))
    (g5 : PySem.W.nsIn K mainGlobals "MOST_SQUARES" = some (some (.int (10) t5)))
    (g6 : PySem.W.nsIn K mainGlobals "MOST_BYTES" = some (some (.int (1024) t6)))
    (g7 : PySem.W.nsIn K mainGlobals "TOLD" = some (some (.int (0) t7)))
    (g8 : PySem.W.nsIn K mainGlobals "TOO_LONG" = some (some (.int (-2) t8)))
    (g9 : PySem.W.nsIn K mainGlobals "AT_FAULT" = some (some (.int (-6) t9)))
    (g10 : PySem.W.nsIn K mainGlobals "NO_SUCH_SQUARE" = some (some (.int (-4) t10)))
    (g11 : PySem.W.nsIn K mainGlobals "NO_WAY" = some (some (.int (-5) t11)))
    (g12 : PySem.W.nsIn K mainGlobals "UNREACHED" = some (some (.int (-1) t12)))
    (b0 : PySem.W.nsIn K mainGlobals "range" = some none)
    (b1 : PySem.W.nsIn K mainGlobals "len" = some none)
    (b2 : PySem.W.nsIn K mainGlobals "list" = some none)
    (b3 : PySem.W.nsIn K mainGlobals "min" = some none)
    (b4 : PySem.W.nsIn K mainGlobals "max" = some none)
    (sg : PySem.W.nsIn K mainGlobals "SIDES" = some (some (.ref sa)))
    (sl : K.lookup sa = some ⟨.type "tuple", sd, .seq #[.ref sb0, .ref sb1, .ref sb2, .ref sb3] sn, ss⟩)
    (sk0 : K.lookup sb0 = some ⟨.type "tuple", sd0, .seq #[.int (0) sx0, .int (-1) sy0] sn0, ss0⟩)
    (sk1 : K.lookup sb1 = some ⟨.type "tuple", sd1, .seq #[.int (1) sx1, .int (0) sy1] sn1, ss1⟩)
    (sk2 : K.lookup sb2 = some ⟨.type "tuple", sd2, .seq #[.int (0) sx2, .int (1) sy2] sn2, ss2⟩)
    (sk3 : K.lookup sb3 = some ⟨.type "tuple", sd3, .seq #[.int (-1) sx3, .int (0) sy3] sn3, ss3⟩)
    (a0 : PySem.W.nsIn K mainGlobals "sign_at" = some (some (.ref f0)))
    (l0 : K.lookup f0 = some ⟨oc0, od0, .func (PySem.W.fnOf "sign_at" "sign_at" (defArgs sSign) (defBody sSign) (defScope sSign) .none kV0 dc0 pm0 an0 cd0 ct0), sl0⟩)
    (c0 : PySem.W.codeIn K cd0 "sign_at" = true)
    (k0 : PySem.W.keepIn K (.ref f0) = true)
    (a1 : PySem.W.nsIn K mainGlobals "width_of" = some (some (.ref f1)))
    (l1 : K.lookup f1 = some ⟨oc1, od1, .func (PySem.W.fnOf "width_of" "width_of" (defArgs sWidth) (defBody sWidth) (defScope sWidth) .none kV1 dc1 pm1 an1 cd1 ct1), sl1⟩)
    (c1 : PySem.W.codeIn K cd1 "width_of" = true)
    (k1 : PySem.W.keepIn K (.ref f1) = true)
    (a2 : PySem.W.nsIn K mainGlobals "height_of" = some (some (.ref f2)))
    (l2 : K.lookup f2 = some ⟨oc2, od2, .func (PySem.W.fnOf "height_of" "height_of" (defArgs sHeight) (defBody sHeight) (defScope sHeight) .none kV2 dc2 pm2 an2 cd2 ct2), sl2⟩)
    (c2 : PySem.W.codeIn K cd2 "height_of" = true)
    (k2 : PySem.W.keepIn K (.ref f2) = true)
    (a3 : PySem.W.nsIn K mainGlobals "side_signs" = some (some (.ref f3)))
    (l3 : K.lookup f3 = some ⟨oc3, od3, .func (PySem.W.fnOf "side_signs" "side_signs" (defArgs sSide) (defBody sSide) (defScope sSide) .none kV3 dc3 pm3 an3 cd3 ct3), sl3⟩)
    (c3 : PySem.W.codeIn K cd3 "side_signs" = true)
    (k3 : PySem.W.keepIn K (.ref f3) = true)
    (a4 : PySem.W.nsIn K mainGlobals "fitting_signs" = some (some (.ref f4)))
    (l4 : K.lookup f4 = some ⟨oc4, od4, .func (PySem.W.fnOf "fitting_signs" "fitting_signs" (defArgs sFit) (defBody sFit) (defScope sFit) .none kV4 dc4 pm4 an4 cd4 ct4), sl4⟩)
    (c4 : PySem.W.codeIn K cd4 "fitting_signs" = true)
    (k4 : PySem.W.keepIn K (.ref f4) = true)
    (a5 : PySem.W.nsIn K mainGlobals "all_signs_fit" = some (some (.ref f5)))
    (l5 : K.lookup f5 = some ⟨oc5, od5, .func (PySem.W.fnOf "all_signs_fit" "all_signs_fit" (defArgs sAll) (defBody sAll) (defScope sAll) .none kV5 dc5 pm5 an5 cd5 ct5), sl5⟩)
    (c5 : PySem.W.codeIn K cd5 "all_signs_fit" = true)
    (k5 : PySem.W.keepIn K (.ref f5) = true)
    (a6 : PySem.W.nsIn K mainGlobals "is_drawing" = some (some (.ref f6)))
    (l6 : K.lookup f6 = some ⟨oc6, od6, .func (PySem.W.fnOf "is_drawing" "is_drawing" (defArgs sDrawing) (defBody sDrawing) (defScope sDrawing) .none kV6 dc6 pm6 an6 cd6 ct6), sl6⟩)
    (c6 : PySem.W.codeIn K cd6 "is_drawing" = true)
    (k6 : PySem.W.keepIn K (.ref f6) = true)
    (a7 : PySem.W.nsIn K mainGlobals "refusal" = some (some (.ref f7)))
    (l7 : K.lookup f7 = some ⟨oc7, od7, .func (PySem.W.fnOf "refusal" "refusal" (defArgs sRefusal) (defBody sRefusal) (defScope sRefusal) .none kV7 dc7 pm7 an7 cd7 ct7), sl7⟩)
    (c7 : PySem.W.codeIn K cd7 "refusal" = true)
    (k7 : PySem.W.keepIn K (.ref f7) = true)
    (a8 : PySem.W.nsIn K mainGlobals "through_sides" = some (some (.ref f8)))
    (l8 : K.lookup f8 = some ⟨oc8, od8, .func (PySem.W.fnOf "through_sides" "through_sides" (defArgs sThrough) (defBody sThrough) (defScope sThrough) .none kV8 dc8 pm8 an8 cd8 ct8), sl8⟩)
    (c8 : PySem.W.codeIn K cd8 "through_sides" = true)
    (k8 : PySem.W.keepIn K (.ref f8) = true)
    (a9 : PySem.W.nsIn K mainGlobals "squares_beside" = some (some (.ref f9)))
    (l9 : K.lookup f9 = some ⟨oc9, od9, .func (PySem.W.fnOf "squares_beside" "squares_beside" (defArgs sBeside) (defBody sBeside) (defScope sBeside) .none kV9 dc9 pm9 an9 cd9 ct9), sl9⟩)
    (c9 : PySem.W.codeIn K cd9 "squares_beside" = true)
    (k9 : PySem.W.keepIn K (.ref f9) = true)
    (a10 : PySem.W.nsIn K mainGlobals "steps_from" = some (some (.ref f10)))
    (l10 : K.lookup f10 = some ⟨oc10, od10, .func (PySem.W.fnOf "steps_from" "steps_from" (defArgs sSteps) (defBody sSteps) (defScope sSteps) .none kV10 dc10 pm10 an10 cd10 ct10), sl10⟩)
    (c10 : PySem.W.codeIn K cd10 "steps_from" = true)
    (k10 : PySem.W.keepIn K (.ref f10) = true)
    (a11 : PySem.W.nsIn K mainGlobals "far" = some (some (.ref f11)))
    (l11 : K.lookup f11 = some ⟨oc11, od11, .func (PySem.W.fnOf "far" "far" (defArgs sFar) (defBody sFar) (defScope sFar) .none kV11 dc11 pm11 an11 cd11 ct11), sl11⟩)
    (c11 : PySem.W.codeIn K cd11 "far" = true)
    (k11 : PySem.W.keepIn K (.ref f11) = true) :
    ∃ fd : FuncData, (∀ (s : Shared) (us : List Value), us.length = (["s", "u", "garden"] : List Str).length → BindsTo s fd ⟨us, []⟩ ((["s", "u", "garden"] : List Str).zip us)) ∧ ∀ base : Heap, K.In base → base.Ns mainGlobals mg → FnOk P w K mg base CX0 6 fa fd ["s", "u", "garden"] (spFar K) := by
  have e := hfa.symm.trans (PySem.W.mg_of X G a11)
  cases e
  have T : Txt mg := ⟨⟨t0, PySem.W.mg_of X G g0⟩, ⟨t1, PySem.W.mg_of X G g1⟩, ⟨t2, PySem.W.mg_of X G g2⟩, ⟨t3, PySem.W.mg_of X G g3⟩, ⟨t4, PySem.W.mg_of X G g4⟩, ⟨t5, PySem.W.mg_of X G g5⟩, ⟨t6, PySem.W.mg_of X G g6⟩, ⟨t7, PySem.W.mg_of X G g7⟩, ⟨t8, PySem.W.mg_of X G g8⟩, ⟨t9, PySem.W.mg_of X G g9⟩, PySem.W.mg_none_of X G b0, PySem.W.mg_none_of X G b1, PySem.W.mg_none_of X G b2, PySem.W.mg_none_of X G b3, PySem.W.mg_none_of X G b4⟩
  have S : Sides K mg := ⟨sa, sb0, sb1, sb2, sb3, PySem.W.mg_of X G sg, fun _ => .inr ⟨_, _, _, sl, rfl, rfl, (show 4 ≤ sizeLine by decide), .cons rfl (.cons rfl (.cons rfl (.cons rfl .nil)))⟩, fun _ => .inr ⟨_, _, _, sk0, rfl, rfl, (show 2 ≤ sizeLine by decide), .cons ⟨_, rfl⟩ (.cons ⟨_, rfl⟩ .nil)⟩, fun _ => .inr ⟨_, _, _, sk1, rfl, rfl, (show 2 ≤ sizeLine by decide), .cons ⟨_, rfl⟩ (.cons ⟨_, rfl⟩ .nil)⟩, fun _ => .inr ⟨_, _, _, sk2, rfl, rfl, (show 2 ≤ sizeLine by decide), .cons ⟨_, rfl⟩ (.cons ⟨_, rfl⟩ .nil)⟩, fun _ => .inr ⟨_, _, _, sk3, rfl, rfl, (show 2 ≤ sizeLine by decide), .cons ⟨_, rfl⟩ (.cons ⟨_, rfl⟩ .nil)⟩⟩
  have hno : Const mg "NO_SUCH_SQUARE" (-4) := ⟨t10, PySem.W.mg_of X G g10⟩
  have hnw : Const mg "NO_WAY" (-5) := ⟨t11, PySem.W.mg_of X G g11⟩
  have hun : Const mg "UNREACHED" (-1) := ⟨t12, PySem.W.mg_of X G g12⟩
  have F0 := fun_mk (st := sSign) l0 c0 k0
  have B0 := F0.binds (ps := ["garden", "wide", "column", "line"]) fun _ _ _ _ _ _ us hl => match us, hl with | [_, _, _, _], _ => rfl
  have F1 := fun_mk (st := sWidth) l1 c1 k1
  have B1 := F1.binds (ps := ["garden"]) fun _ _ _ _ _ _ us hl => match us, hl with | [_], _ => rfl
  have F2 := fun_mk (st := sHeight) l2 c2 k2
  have B2 := F2.binds (ps := ["garden", "wide"]) fun _ _ _ _ _ _ us hl => match us, hl with | [_, _], _ => rfl
  have F3 := fun_mk (st := sSide) l3 c3 k3
  have B3 := F3.binds (ps := ["hedge", "place", "last"]) fun _ _ _ _ _ _ us hl => match us, hl with | [_, _, _], _ => rfl
  have F4 := fun_mk (st := sFit) l4 c4 k4
  have B4 := F4.binds (ps := ["wide", "high", "column", "line"]) fun _ _ _ _ _ _ us hl => match us, hl with | [_, _, _, _], _ => rfl
  have F5 := fun_mk (st := sAll) l5 c5 k5
  have B5 := F5.binds (ps := ["garden", "wide", "high"]) fun _ _ _ _ _ _ us hl => match us, hl with | [_, _, _], _ => rfl
  have F6 := fun_mk (st := sDrawing) l6 c6 k6
  have B6 := F6.binds (ps := ["garden"]) fun _ _ _ _ _ _ us hl => match us, hl with | [_], _ => rfl
  have F7 := fun_mk (st := sRefusal) l7 c7 k7
  have B7 := F7.binds (ps := ["garden"]) fun _ _ _ _ _ _ us hl => match us, hl with | [_], _ => rfl
  have F8 := fun_mk (st := sThrough) l8 c8 k8
  have B8 := F8.binds (ps := ["garden", "wide", "square"]) fun _ _ _ _ _ _ us hl => match us, hl with | [_, _, _], _ => rfl
  have F9 := fun_mk (st := sBeside) l9 c9 k9
  have B9 := F9.binds (ps := ["garden"]) fun _ _ _ _ _ _ us hl => match us, hl with | [_], _ => rfl
  have F10 := fun_mk (st := sSteps) l10 c10 k10
  have B10 := F10.binds (ps := ["start", "beside"]) fun _ _ _ _ _ _ us hl => match us, hl with | [_, _], _ => rfl
  have F11 := fun_mk (st := sFar) l11 c11 k11
  refine ⟨PySem.W.fnOf "far" "far" (defArgs sFar) (defBody sFar) (defScope sFar) .none kV11 dc11 pm11 an11 cd11 ct11, fun s us hu => match us, hu with | [_, _, _], _ => .of_eq rfl, fun base _ _ => ?_⟩
  have G0 : Fn P w K mg base 1 "sign_at" ["garden", "wide", "column", "line"] (spSign K) := ⟨⟨f0, _, ok_sign F0, PySem.W.mg_of X G a0, k0, B0⟩⟩
  have G1 : Fn P w K mg base 1 "width_of" ["garden"] (spWidth K) := ⟨⟨f1, _, ok_width F1 T, PySem.W.mg_of X G a1, k1, B1⟩⟩
  have G2 : Fn P w K mg base 1 "height_of" ["garden", "wide"] (spHeight K) := ⟨⟨f2, _, ok_height F2 T, PySem.W.mg_of X G a2, k2, B2⟩⟩
  have G3 : Fn P w K mg base 1 "side_signs" ["hedge", "place", "last"] spSide := ⟨⟨f3, _, ok_side F3 T, PySem.W.mg_of X G a3, k3, B3⟩⟩
  have G4 : Fn P w K mg base 2 "fitting_signs" ["wide", "high", "column", "line"] spFit := ⟨⟨f4, _, ok_fit F4 T G3, PySem.W.mg_of X G a4, k4, B4⟩⟩
  have G5 : Fn P w K mg base 3 "all_signs_fit" ["garden", "wide", "high"] (spAll K) := ⟨⟨f5, _, ok_all F5 T G0 G4, PySem.W.mg_of X G a5, k5, B5⟩⟩
  have G6 : Fn P w K mg base 4 "is_drawing" ["garden"] (spDraw K) := ⟨⟨f6, _, ok_draw F6 T G1 G2 G5, PySem.W.mg_of X G a6, k6, B6⟩⟩
  have G7 : Fn P w K mg base 5 "refusal" ["garden"] (spRef K) := ⟨⟨f7, _, ok_ref F7 T G6, PySem.W.mg_of X G a7, k7, B7⟩⟩
  have G8 : Fn P w K mg base 2 "through_sides" ["garden", "wide", "square"] (spThrough K) := ⟨⟨f8, _, ok_through F8 T S G0, PySem.W.mg_of X G a8, k8, B8⟩⟩
  have G9 : Fn P w K mg base 3 "squares_beside" ["garden"] (spBeside K) := ⟨⟨f9, _, ok_beside F9 T G1 G2 G8, PySem.W.mg_of X G a9, k9, B9⟩⟩
  have G10 : Fn P w K mg base 1 "steps_from" ["start", "beside"] spSteps := ⟨⟨f10, _, ok_steps F10 T hun, PySem.W.mg_of X G a10, k10, B10⟩⟩
  exact ok_far F11 T hno hnw hun G7 G9 G10
end Hw
open PySem PySem.W PyProof.Rows
set_option maxRecDepth 100000 in
set_option maxHeartbeats 0 in
theorem PySem.Challenge.cw_hedgeways_s04_far_holds : PySem.Challenge.rw_hedgeways_s04_far.Holds := by
  w_on; k_headS; (case hw => exact ⟨[.int 0, .int 0, .list []], by decide +kernel, by decide +kernel⟩)
  k_fillS
  refine L2.walk_specK (r := PySem.Challenge.rw_hedgeways_s04_far) (k := 6) (CX := L2.CX0) (ps := ["s", "u", "garden"]) (sp := Hw.spFar) (by decide +kernel) rfl rfl ⟨rfl, by decide, by decide⟩ (fun w h Y => PySem.W.kIn_of Y) ?F ?S (fun _ _ _ _ z => z)
  case F =>
    intro w mg fa h Y KX G hmg
    refine' Hw.all_mk KX G hmg ?hw_g0 ?hw_g1 ?hw_g2 ?hw_g3 ?hw_g4 ?hw_g5 ?hw_g6 ?hw_g7 ?hw_g8 ?hw_g9 ?hw_g10 ?hw_g11 ?hw_g12 ?hw_b0 ?hw_b1 ?hw_b2 ?hw_b3 ?hw_b4 ?hw_sg ?hw_sl ?hw_sk0 ?hw_sk1 ?hw_sk2 ?hw_sk3 ?hw_a0 ?hw_l0 ?hw_c0 ?hw_k0 ?hw_a1 ?hw_l1 ?hw_c1 ?hw_k1 ?hw_a2 ?hw_l2 ?hw_c2 ?hw_k2 ?hw_a3 ?hw_l3 ?hw_c3 ?hw_k3 ?hw_a4 ?hw_l4 ?hw_c4 ?hw_k4 ?hw_a5 ?hw_l5 ?hw_c5 ?hw_k5 ?hw_a6 ?hw_l6 ?hw_c6 ?hw_k6 ?hw_a7 ?hw_l7 ?hw_c7 ?hw_k7 ?hw_a8 ?hw_l8 ?hw_c8 ?hw_k8 ?hw_a9 ?hw_l9 ?hw_c9 ?hw_k9 ?hw_a10 ?hw_l10 ?hw_c10 ?hw_k10 ?hw_a11 ?hw_l11 ?hw_c11 ?hw_k11
    (case hw_g0 => k_is)
    (case hw_g1 => k_is)
    (case hw_g2 => k_is)
    (case hw_g3 => k_is)
    (case hw_g4 => k_is)
    (case hw_g5 => k_is)
    (case hw_g6 => k_is)
    (case hw_g7 => k_is)
    (case hw_g8 => k_is)
    (case hw_g9 => k_is)
    (case hw_g10 => k_is)
    (case hw_g11 => k_is)
    (case hw_g12 => k_is)
    (case hw_b0 => k_is)
    (case hw_b1 => k_is)
    (case hw_b2 => k_is)
    (case hw_b3 => k_is)
    (case hw_b4 => k_is)
    (case hw_sg => k_is)
    (case hw_sl => k_is)
    (case hw_sk0 => k_is)
    (case hw_sk1 => k_is)
    (case hw_sk2 => k_is)
    (case hw_sk3 => k_is)
    (case hw_a0 => k_is)
    (case hw_l0 => k_is)
    (case hw_c0 => k_is)
    (case hw_k0 => k_is)
    (case hw_a1 => k_is)
    (case hw_l1 => k_is)
    (case hw_c1 => k_is)
    (case hw_k1 => k_is)
    (case hw_a2 => k_is)
    (case hw_l2 => k_is)
    (case hw_c2 => k_is)
    (case hw_k2 => k_is)
    (case hw_a3 => k_is)
    (case hw_l3 => k_is)
    (case hw_c3 => k_is)
    (case hw_k3 => k_is)
    (case hw_a4 => k_is)
    (case hw_l4 => k_is)
    (case hw_c4 => k_is)
    (case hw_k4 => k_is)
    (case hw_a5 => k_is)
    (case hw_l5 => k_is)
    (case hw_c5 => k_is)
    (case hw_k5 => k_is)
    (case hw_a6 => k_is)
    (case hw_l6 => k_is)
    (case hw_c6 => k_is)
    (case hw_k6 => k_is)
    (case hw_a7 => k_is)
    (case hw_l7 => k_is)
    (case hw_c7 => k_is)
    (case hw_k7 => k_is)
    (case hw_a8 => k_is)
    (case hw_l8 => k_is)
    (case hw_c8 => k_is)
    (case hw_k8 => k_is)
    (case hw_a9 => k_is)
    (case hw_l9 => k_is)
    (case hw_c9 => k_is)
    (case hw_k9 => k_is)
    (case hw_a10 => k_is)
    (case hw_l10 => k_is)
    (case hw_c10 => k_is)
    (case hw_k10 => k_is)
    (case hw_a11 => k_is)
    (case hw_l11 => k_is)
    (case hw_c11 => k_is)
    (case hw_k11 => k_is)
  case S =>
    intro K H xs a hO hwi hask hx
    cases hx with
    | cons h1 h2 =>
      cases h2 with
      | cons h2 h3 =>
        cases h3 with
        | cons h3 h4 =>
          cases h4
          cases h1
          cases h2
          cases h3 with
          | lst hs ha =>
            have e := L2.ints_dw a.2.2.1 _ ha
            subst e
            have q : (Codec.inInt 0 4294967295 a.1 && (Codec.inInt 0 4294967295 a.2.1 && ((Codec.inLen 0 1100 a.2.2.1 && a.2.2.1.all (Codec.inInt 0 255)) && true))) = true := hwi
            rw [Bool.and_eq_true, Bool.and_eq_true, Bool.and_eq_true, Bool.and_eq_true] at q
            have q1 := Codec.inInt_iff.mp q.1
            have q2 := Codec.inInt_iff.mp q.2.1
            have e1 : ((a.1.toNat : Nat) : Int) = a.1 := Int.toNat_of_nonneg q1.1
            have e2 : ((a.2.1.toNat : Nat) : Int) = a.2.1 := Int.toNat_of_nonneg q2.1
            refine ⟨a.1.toNat, a.2.1.toNat, _, a.2.2.1, by rw [e1, e2], hs, fun v hv => ?_, fun H' p hp => .lst (L2.SqL.of hp) ?_⟩
            · exact Codec.inInt_iff.mp (List.all_eq_true.mp q.2.2.1.2 v hv)
            · rw [e1, e2]
              exact L2.dw_ints _
