import PyProof.Rows.All
import Wide.All
import OpenK.AllK
import Wide.FinOn
import PyProof.EqAt
import PyProof.EqKinds
import PyProof.TupleCall
import Open.SpecLaws
import KE.OsHead
import KE.OsGo
import PySem.Challenge.RW_enginetimes_s01_answers
set_option Elab.async false
set_option linter.all false
set_option maxRecDepth 100000
/-! THE HAND LAYER, for ints, bools, texts, own classes, lists, tuples, dicts, comprehensions, walks over dicts, enumerate, zip, reversed, texts, calls, loops. Paste it whole ahead of your own text; what your proof does not reach may be deleted. -/
namespace L2
open PySem PySem.Spec PyProof.Rows

/-- a key: an int or a str -/
abbrev Key := Sum Int Str
def keyIs : Key → Value → Bool
  | .inl k, v => Value.isInt k v
  | .inr x, v => Value.isStrOf x v
def keyH (w : World) : Key → Int
  | .inl k => hashInt k
  | .inr x => hashStr w x
theorem keyIs_shape : ∀ {k : Key} {v : Value}, keyIs k v = true → (∃ i t, k = Sum.inl i ∧ v = Value.int i t) ∨ (∃ x t, k = Sum.inr x ∧ v = Value.str x t)
  | .inl i, v, h => by
    obtain ⟨t, e⟩ := Value.isInt_shape (k := i) (v := v) h
    exact .inl ⟨i, t, rfl, e⟩
  | .inr x, v, h => by
    obtain ⟨t, e⟩ := Value.isStrOf_shape (x := x) (v := v) h
    exact .inr ⟨x, t, rfl, e⟩
theorem key_ll (a b : Int) : decide ((Sum.inl a : Key) = Sum.inl b) = (a == b) := by
  by_cases e : a = b
  · subst e; simp
  · have h : ¬ (Sum.inl a : Key) = Sum.inl b := fun q => e (Sum.inl.inj q)
    rw [decide_eq_false h]
    exact (beq_eq_false_iff_ne.mpr e).symm
theorem key_rr (a b : Str) : decide ((Sum.inr a : Key) = Sum.inr b) = decide (a = b) := by
  by_cases e : a = b
  · subst e; simp
  · have h : ¬ (Sum.inr a : Key) = Sum.inr b := fun q => e (Sum.inr.inj q)
    rw [decide_eq_false h, decide_eq_false e]
theorem key_lr (a : Int) (b : Str) : decide ((Sum.inl a : Key) = Sum.inr b) = false := decide_eq_false (fun q => nomatch q)
theorem key_rl (a : Str) (b : Int) : decide ((Sum.inr a : Key) = Sum.inl b) = false := decide_eq_false (fun q => nomatch q)

def mixKind (prog : Program) (w : World) : PySem.KeyKind prog w Key where
  is := keyIs
  hash := keyH w
  inj := fun v a b ha hb => by
    rcases keyIs_shape ha with ⟨i, t, rfl, rfl⟩ | ⟨x, t, rfl, rfl⟩
    · rcases keyIs_shape hb with ⟨j, u, rfl, e⟩ | ⟨y, u, rfl, e⟩
      · injection e with e1 _; rw [e1]
      · exact nomatch e
    · rcases keyIs_shape hb with ⟨j, u, rfl, e⟩ | ⟨y, u, rfl, e⟩
      · exact nomatch e
      · injection e with e1 _; rw [e1]
  byValue := fun k v h => by
    rcases keyIs_shape h with ⟨i, t, rfl, rfl⟩ | ⟨x, t, rfl, rfl⟩ <;> rfl
  pyHash := fun hv h => by
    rcases keyIs_shape hv with ⟨i, t, rfl, rfl⟩ | ⟨x, t, rfl, rfl⟩
    · exact wpAny_pyHash_int h
    · exact wpAny_pyHash_str h
  eqBool := fun hu hv h => by
    rcases keyIs_shape hu with ⟨i, t, rfl, rfl⟩ | ⟨x, t, rfl, rfl⟩
    · rcases keyIs_shape hv with ⟨j, u, rfl, rfl⟩ | ⟨y, u, rfl, rfl⟩
      · rw [key_ll] at h; exact wpAny_eqBool_int h
      · rw [key_lr] at h; exact SeqAt.EqAt.int_str i t y u _ _ _ _ h
    · rcases keyIs_shape hv with ⟨j, u, rfl, rfl⟩ | ⟨y, u, rfl, rfl⟩
      · rw [key_rl] at h; exact SeqAt.EqAt.str_int x t j u _ _ _ _ h
      · rw [key_rr] at h; exact wpAny_eqBool_str h
  «strs» := fun k x t v h => by
    rcases keyIs_shape h with ⟨i, u, rfl, e⟩ | ⟨y, u, rfl, e⟩
    · exact nomatch e
    · injection e with e1 _
      subst e1
      cases v <;> rfl

end L2

namespace L2
open PySem PySem.Spec PyProof.Rows

/-- a value, without the heap -/
inductive V where
  | non | bl (b : Bool) | int (i : Int) | str (x : Str) | byt (b : Array UInt8) | flt (b : UInt64) | ref (a : Addr) | ty (n : String)
  deriving DecidableEq

def RelV : V → Value → Prop
  | .non, u => u = Value.none
  | .bl b, u => u = Value.bool b
  | .int i, u => ∃ t, u = Value.int i t
  | .str x, u => ∃ t, u = Value.str x t
  | .byt b, u => ∃ t, u = Value.bytes b t
  | .flt b, u => ∃ t, u = Value.float b t
  | .ref a, u => u = Value.ref a
  | .ty n, u => u = Value.type n

abbrev Vals : List V → List Value → Prop := Paired RelV
theorem Vals.length {xs : List V} {us : List Value} (r : Vals xs us) : xs.length = us.length := Paired.length r
theorem Vals.get : ∀ {xs : List V} {us : List Value} {i : Nat} {x : V}, Vals xs us → xs[i]? = some x → ∃ u, us[i]? = some u ∧ RelV x u
  | _, _, _, _, .nil, e => by simp at e
  | _, _, 0, _, .cons r _, e => by simp at e; subst e; exact ⟨_, rfl, r⟩
  | _, _, i + 1, x, .cons _ t, e => by
    obtain ⟨u, h1, h2⟩ := Vals.get (i := i) (x := x) t (by simpa using e)
    exact ⟨u, by simpa using h1, h2⟩
theorem Vals.append : ∀ {xs ys : List V} {us ws : List Value}, Vals xs us → Vals ys ws → Vals (xs ++ ys) (us ++ ws)
  | _, _, _, _, .nil, s => s
  | _, _, _, _, .cons r t, s => .cons r (Vals.append t s)
theorem Vals.take : ∀ {xs : List V} {us : List Value} (n : Nat), Vals xs us → Vals (xs.take n) (us.take n)
  | _, _, 0, _ => .nil
  | _, _, _ + 1, .nil => .nil
  | _, _, n + 1, .cons r t => .cons r (Vals.take n t)
theorem Vals.drop : ∀ {xs : List V} {us : List Value} (n : Nat), Vals xs us → Vals (xs.drop n) (us.drop n)
  | _, _, 0, r => r
  | _, _, _ + 1, .nil => .nil
  | _, _, n + 1, .cons _ t => Vals.drop n t
def RelO : Option V → Option Value → Prop
  | some v, some u => RelV v u
  | none, none => True
  | _, _ => False
def KV {κ : Type} : List (κ × V) → List (κ × Value) → Prop := Paired fun (p : κ × V) (q : κ × Value) => p.1 = q.1 ∧ RelV p.2 q.2

/-- a key of a dict (00_mix): an int or a text -/
def kV : Key → V
  | .inl i => .int i
  | .inr x => .str x

/-- what stands at a tracked address -/
inductive HO where
  /-- a list -/
  | lst (xs : List V)
  /-- a tuple (never changes) -/
  | tup (xs : List V)
  /-- a dict whose keys are ints and texts; one whose keys are tuples of ints and texts (the empty one is both) -/
  | dK (kvs : List (Key × V)) | dT (kvs : List (List Key × V))
  /-- a set of ints: its members, its size -/
  | set (S : Int → Bool) (n : Nat)
  /-- an instance of the class at C, its dict at dx, its attributes -/
  | ins (C dx : Addr) (fs : List (Str × V))
  /-- the dict of the instance at x -/
  | own (x : Addr)
  /-- the dict of an exception -/
  | xd (fs : List (Str × V))
  /-- a bound method, f of x -/
  | met (f x : Addr)
  /-- a range object lo, lo + 1, .. below hi -/
  | rng (lo hi : Int)
  /-- a thing that is known to the object (the script; a dict while a loop walks it): read, never written while it is so -/
  | frz (o : Obj) (u : HO)
  /-- a code object's table -/
  | tbl (ps : Array Value)
  /-- any other thing, by what is true of its one object (a def of one's own: SetO a S n := HO.ext fun h => ..) -/
  | ext (φ : Heap → Prop)

abbrev Hp := Addr → Option HO
def upd (H : Hp) (a : Addr) (o : HO) : Hp := fun b => if b = a then some o else H b
theorem upd_same {H : Hp} {a : Addr} {o : HO} : upd H a o a = some o := by unfold upd; rw [if_pos rfl]
theorem upd_ne {H : Hp} {a b : Addr} {o : HO} (h : b ≠ a) : upd H a o b = H b := by unfold upd; rw [if_neg h]
/-- two objects of different content stand apart -/
theorem ne_of {H : Hp} {a b : Addr} {o u : HO} (h : H a = some o) (h' : H b = some u) (d : o ≠ u) : a ≠ b := by
  intro e; subst e; rw [h] at h'; exact d (Option.some.inj h')
theorem ne_of_none {H : Hp} {a b : Addr} {o : HO} (h : H a = some o) (h' : H b = none) : a ≠ b := by
  intro e; subst e; rw [h] at h'; cases h'

section
variable (P : Program) (w : World)
def ObjOk (H : Hp) (h : Heap) (a : Addr) : HO → Prop
  | .lst xs => xs.length ≤ sizeLine ∧ ∃ (its : List Value) (n : Nat), Vals xs its ∧ h.get? a = some { cls := .type "list", data := .seq its.toArray n }
  | .tup xs => xs.length ≤ sizeLine ∧ ∃ its : List Value, Vals xs its ∧ IsTup h a its.toArray
  | .dK kvs => kvs.length ≤ sizeLine ∧ (a == sysModules) = false ∧ ∃ vs, KV kvs vs ∧ h.DictOf (mixKind P w) a vs
  | .dT kvs => kvs.length ≤ sizeLine ∧ (a == sysModules) = false ∧ ∃ xs : List (List Key × Addr × Value),
      Paired (fun (p : List Key × V) (q : List Key × Addr × Value) => p.1 = q.1 ∧ H q.2.1 = some (.tup (p.1.map kV)) ∧ RelV p.2 q.2.2) kvs xs ∧
      ∃ o es ep, h.get? a = some o ∧ o.ExactDict ∧ o.data = .dict es ep ∧ es.toList = xs.map (entryOfKey (tupleKind (mixKind P w))) ∧ (xs.map (·.1)).Nodup
  | .set S n => h.SetOf (intKind P w) a S n
  | .ins C dx fs => H dx = some (.own a) ∧ fs.length ≤ 1000 ∧ dx ≠ a ∧ h.get? a = some (PySem.W.instObj C dx) ∧
      ∃ mA, h.Ns1 dx mA ∧ (∀ f, RelO (fs.lookup f) (mA f)) ∧ PySem.Within mA (fs.map (·.1))
  | .own _ => ∃ o, h.get? a = some o
  | .xd fs => ∃ mA, h.Ns1 a mA ∧ ∀ f, RelO (fs.lookup f) (mA f)
  | .rng lo hi => ∃ t u v, h.get? a = some { cls := .type "range", data := .fields #[.int lo t, .int hi u, .int 1 v] }
  | .frz o u => h.get? a = some o ∧ ObjOk H h a u
  | .tbl ps => h.get? a = some { cls := .none, data := .fields ps }
  | .met f x => h.get? a = some (PySem.W.methodObj (.ref f) (.ref x))
  | .ext φ => φ h ∧ (∃ o, h.get? a = some o) ∧ ∀ h1 h2 : Heap, φ h1 → (∀ o, h1.get? a = some o → h2.get? a = some o) → φ h2
/-- the abstract heap is held -/
def HOk (H : Hp) (h : Heap) : Prop := ∀ a o, H a = some o → ObjOk P w H h a o
end

section
variable {P : Program} {w : World} {H H' : Hp} {h h' : Heap} {a : Addr} {o : HO}
theorem ObjOk.lt (x : ObjOk P w H h a o) : a < h.objs.size := by
  cases o with
  | lst xs => obtain ⟨_, _, _, _, e⟩ := x; exact Heap.lt_size e
  | tup xs => obtain ⟨_, _, _, p⟩ := x; exact p.lt
  | dK kvs => obtain ⟨_, _, _, _, o, _, _, e, _⟩ := x; exact Heap.lt_size e
  | dT kvs => obtain ⟨_, _, _, _, o, _, _, e, _⟩ := x; exact Heap.lt_size e
  | set S n => obtain ⟨o, _, _, _, e, _⟩ := x; exact Heap.lt_size e
  | ins C dx fs => obtain ⟨_, _, _, e, _⟩ := x; exact Heap.lt_size e
  | own y => obtain ⟨_, e⟩ := x; exact Heap.lt_size e
  | xd fs => obtain ⟨_, ⟨_, _, _, e, _⟩, _⟩ := x; exact Heap.lt_size e
  | rng lo hi => obtain ⟨_, _, _, e⟩ := x; exact Heap.lt_size e
  | frz ob u => obtain ⟨e, _⟩ := x; exact Heap.lt_size e
  | tbl ps => exact Heap.lt_size (show h.get? a = some _ from x)
  | met f y => exact Heap.lt_size (show h.get? a = some _ from x)
  | ext φ => obtain ⟨_, ⟨_, e⟩, _⟩ := x; exact Heap.lt_size e
theorem Paired.mapP {α β : Type} {F G : α → β → Prop} : ∀ {l₁ : List α} {l₂ : List β}, Paired F l₁ l₂ → (∀ a b, F a b → G a b) → Paired G l₁ l₂
  | _, _, .nil, _ => .nil
  | _, _, .cons r t, f => .cons (f _ _ r) (Paired.mapP t f)
/-- what an object's description leans on: its own object, its own dict, the tuples -/
theorem ObjOk.stay (x : ObjOk P w H h a o) (k : ∀ b u, (b = a ∨ H b = some (.own a)) → h.get? b = some u → h'.get? b = some u)
    (ho : ∀ b, H b = some (.own a) → H' b = some (.own a)) (ht : ∀ b xs, H b = some (.tup xs) → H' b = some (.tup xs)) : ObjOk P w H' h' a o := by
  induction o with
  | lst xs => obtain ⟨z, its, n, r, e⟩ := x; exact ⟨z, its, n, r, k _ _ (.inl rfl) e⟩
  | tup xs => obtain ⟨z, its, r, ob, e, c⟩ := x; exact ⟨z, its, r, ob, k _ _ (.inl rfl) e, c⟩
  | dK kvs => obtain ⟨z, y, vs, r, ob, es, ep, e, c⟩ := x; exact ⟨z, y, vs, r, ob, es, ep, k _ _ (.inl rfl) e, c⟩
  | dT kvs =>
    obtain ⟨z, y, xs, r, ob, es, ep, e, c⟩ := x
    exact ⟨z, y, xs, Paired.mapP r fun p q z => ⟨z.1, ht _ _ z.2.1, z.2.2⟩, ob, es, ep, k _ _ (.inl rfl) e, c⟩
  | set S n => obtain ⟨ob, es, ep, t, e, c⟩ := x; exact ⟨ob, es, ep, t, k _ _ (.inl rfl) e, c⟩
  | ins C dx fs =>
    obtain ⟨d, z, ne, e, mA, ⟨od, es, ep, e2, c⟩, r⟩ := x
    exact ⟨ho _ d, z, ne, k _ _ (.inl rfl) e, mA, ⟨od, es, ep, k _ _ (.inr d) e2, c⟩, r⟩
  | own y => obtain ⟨ob, e⟩ := x; exact ⟨ob, k _ _ (.inl rfl) e⟩
  | xd fs => obtain ⟨mA, ⟨od, es, ep, e, c⟩, r⟩ := x; exact ⟨mA, ⟨od, es, ep, k _ _ (.inl rfl) e, c⟩, r⟩
  | rng lo hi => obtain ⟨t, u, v, e⟩ := x; exact ⟨t, u, v, k _ _ (.inl rfl) e⟩
  | frz ob u ih => obtain ⟨e, q⟩ := x; exact ⟨k _ _ (.inl rfl) e, ih q⟩
  | tbl ps =>
    have e : h.get? a = some { cls := .none, data := .fields ps } := x
    show h'.get? a = some { cls := .none, data := .fields ps }
    exact k a _ (.inl rfl) e
  | met f y =>
    have e : h.get? a = some (PySem.W.methodObj (.ref f) (.ref y)) := x
    show h'.get? a = some (PySem.W.methodObj (.ref f) (.ref y))
    exact k a _ (.inl rfl) e
  | ext φ => obtain ⟨p, ⟨o, e⟩, st⟩ := x; exact ⟨st _ _ p fun o q => k _ _ (.inl rfl) q, ⟨o, k _ _ (.inl rfl) e⟩, st⟩
theorem HOk.lt (x : HOk P w H h) (e : H a = some o) : a < h.objs.size := (x a o e).lt
theorem HOk.fresh (x : HOk P w H h) (e : h.objs.size ≤ a) : H a = none := by
  cases q : H a with
  | none => rfl
  | some u => exact absurd (Nat.lt_of_lt_of_le (x.lt q) e) (Nat.lt_irrefl _)
/-- every object of the heap is kept -/
theorem HOk.kept (x : HOk P w H h) (k : ∀ b u, h.get? b = some u → h'.get? b = some u) : HOk P w H h' := fun a o e =>
  (x a o e).stay (fun b u _ q => k b u q) (fun _ q => q) fun _ _ q => q
/-- a new object is laid and tracked -/
theorem HOk.laid (x : HOk P w H h) (k : ∀ b u, h.get? b = some u → h'.get? b = some u) (hp : h.objs.size ≤ a) (new : ObjOk P w (upd H a o) h' a o) : HOk P w (upd H a o) h' := fun b u e => by
  have hn := x.fresh hp
  by_cases hb : b = a
  · subst hb; rw [upd_same] at e; cases e; exact new
  · rw [upd_ne hb] at e
    exact (x b u e).stay (fun c v _ q => k c v q) (fun c q => by rw [upd_ne (ne_of_none q hn)]; exact q) fun c xs q => by rw [upd_ne (ne_of_none q hn)]; exact q
end

/-- what may be read as u: it is u, or a known u -/
def Rd (H : Hp) (a : Addr) (u : HO) : Prop := H a = some u ∨ ∃ o, H a = some (.frz o u)
theorem Rd.ok {P : Program} {w : World} {H : Hp} {h : Heap} {a : Addr} {u : HO} (r : Rd H a u) (x : HOk P w H h) : ObjOk P w H h a u := by
  rcases r with r | ⟨o, r⟩
  · exact x a u r
  · obtain ⟨_, q⟩ := x a _ r
    exact q
/-- what may be written -/
def Mut : Option HO → Prop
  | some (.lst _) => True
  | some (.dK _) => True
  | some (.dT _) => True
  | some (.set _ _) => True
  | some (.ins _ _ _) => True
  | some (.ext _) => True
  | _ => False
section
variable {P : Program} {w : World} {H : Hp} {h h' : Heap} {x e : Addr} {o' : HO}
/-- the object at e is changed: x itself, or the dict of the instance x -/
theorem HOk.write (ok : HOk P w H h) (mu : Mut (H x)) (he : e = x ∨ H e = some (.own x)) (k : ∀ b u, b ≠ e → h.get? b = some u → h'.get? b = some u) (heo : ∃ u, h'.get? e = some u)
    (new : ObjOk P w (upd H x o') h' x o') : HOk P w (upd H x o') h' := fun b u q => by
  have nown : ∀ c y, H c = some (.own y) → c ≠ x := fun c y r z => by subst z; rw [r] at mu; exact mu
  have ntup : ∀ c xs, H c = some (.tup xs) → c ≠ x := fun c xs r z => by subst z; rw [r] at mu; exact mu
  by_cases hb : b = x
  · subst hb; rw [upd_same] at q; cases q; exact new
  · rw [upd_ne hb] at q
    by_cases hbe : b = e
    · have q' : H b = some (.own x) := by
        rcases he with z | z
        · exact absurd (hbe.trans z) hb
        · rw [hbe]; exact z
      rw [q] at q'; cases q'
      obtain ⟨v, hv⟩ := heo
      exact ⟨v, by rw [hbe]; exact hv⟩
    · refine (ok b u q).stay (fun c v hc r => k c v ?_ r) (fun c r => by rw [upd_ne (nown c b r)]; exact r) fun c xs r => by rw [upd_ne (ntup c xs r)]; exact r
      rcases hc with rfl | hc
      · exact hbe
      · rintro rfl
        rcases he with z | z
        · exact nown c b hc z
        · rw [hc] at z; cases z; exact hb rfl
end

/-! ### kept unless tracked; of the frames at fs (the callers') the slots may change (an exception that passes writes there); of the records at ex (iterators) nothing is said -/
structure Un (fs ex : List Addr) (H H' : Hp) (h h' : Heap) : Prop where
  keep : ∀ b o, h.get? b = some o → H b = none → b ∉ fs → b ∉ ex → h'.get? b = some o
  slot : ∀ b o, h.get? b = some o → H b = none → b ∈ fs → b ∉ ex → ∃ sl, h'.get? b = some { o with slots := sl }
  free : ∀ b o, h.get? b = some o → H b = none → b ∉ ex → H' b = none
  there : ∀ b o, h.get? b = some o → b ∉ ex → ∃ o', h'.get? b = some o'
  tups : ∀ b xs, H b = some (.tup xs) → H' b = some (.tup xs)
  frzs : ∀ b o u, H b = some (.frz o u) → H' b = some (.frz o u)
  tbls : ∀ b ps, H b = some (.tbl ps) → ∃ more, H' b = some (.tbl (ps ++ more))
section
variable {fs fs' ex ex' : List Addr} {H H1 H2 : Hp} {h h1 h2 h' : Heap} {a x e : Addr} {o : HO}
theorem Un.any (u : Un fs ex H H1 h h1) {b : Addr} {ob : Obj} (q : h.get? b = some ob) (n : H b = none) (hx : b ∉ ex) : ∃ sl, h1.get? b = some { ob with slots := sl } := by
  by_cases hb : b ∈ fs
  · exact u.slot b ob q n hb hx
  · exact ⟨ob.slots, u.keep b ob q n hb hx⟩
theorem Un.kept (k : ∀ b u, h.get? b = some u → h'.get? b = some u) : Un fs ex H H h h' :=
  ⟨fun b ob q _ _ _ => k b ob q, fun b ob q _ _ _ => ⟨ob.slots, k b ob q⟩, fun _ _ _ n _ => n, fun b ob q _ => ⟨ob, k b ob q⟩, fun _ _ q => q, fun _ _ _ q => q, fun _ ps q => ⟨#[], by rw [q]; simp⟩⟩
theorem Un.refl : Un fs ex H H h h := Un.kept fun _ _ q => q
theorem Un.laid (k : ∀ b u, h.get? b = some u → h'.get? b = some u) (hp : h.objs.size ≤ a) (hn : H a = none) : Un fs ex H (upd H a o) h h' where
  keep := fun b u q _ _ _ => k b u q
  slot := fun b u q _ _ _ => ⟨u.slots, k b u q⟩
  free := fun b u q n _ => by rw [upd_ne (Nat.ne_of_lt (Nat.lt_of_lt_of_le (Heap.lt_size q) hp))]; exact n
  there := fun b u q _ => ⟨u, k b u q⟩
  tups := fun b xs q => by rw [upd_ne (ne_of_none q hn)]; exact q
  frzs := fun b u xs q => by rw [upd_ne (ne_of_none q hn)]; exact q
  tbls := fun b ps q => ⟨#[], by rw [upd_ne (ne_of_none q hn), q]; simp⟩
theorem Un.write (mu : Mut (H x)) (he : e = x ∨ H e = some (.own x)) (k : ∀ b u, b ≠ e → h.get? b = some u → h'.get? b = some u) (heo : ∃ u, h'.get? e = some u) : Un fs ex H (upd H x o) h h' := by
  have hx : ∀ b, H b = none → b ≠ x := fun b n z => by subst z; rw [n] at mu; exact mu
  have hb : ∀ b, H b = none → b ≠ e := fun b n z => by
    subst z
    rcases he with r | r
    · exact hx b n r
    · rw [n] at r; cases r
  have hm : ∀ b u, H b = some u → ¬ Mut (some u) → b ≠ x := fun b u q nm z => by subst z; rw [q] at mu; exact nm mu
  refine ⟨fun b u q n _ _ => k b u (hb b n) q, fun b u q n _ _ => ⟨u.slots, k b u (hb b n) q⟩, fun b u q n _ => by rw [upd_ne (hx b n)]; exact n, fun b u q _ => ?_,
    fun b xs q => by rw [upd_ne (hm b _ q fun z => z)]; exact q, fun b u xs q => by rw [upd_ne (hm b _ q fun z => z)]; exact q, fun b ps q => ⟨#[], by rw [upd_ne (hm b _ q fun z => z), q]; simp⟩⟩
  by_cases hbe : b = e
  · subst hbe; exact heo
  · exact ⟨u, k b u hbe q⟩
end

/-! ### the heap without what is tracked -/
def trk (h : Heap) (H : Hp) : List Addr := (List.range h.objs.size).filter fun a => (H a).isSome
def hidT (h : Heap) (H : Hp) : Heap := PySem.W.hideAll h (trk h H)
theorem hidT_size (h : Heap) (H : Hp) : (hidT h H).objs.size = h.objs.size := PySem.W.hideAll_size _ _
theorem hidT_get {h : Heap} {H : Hp} {b : Addr} {o : Obj} (e : h.get? b = some o) (n : H b = none) : (hidT h H).get? b = some o :=
  PySem.W.hideAll_get _ e fun hm => by
    have q : (H b).isSome = true := (List.mem_filter.mp hm).2
    rw [n] at q; simp at q
theorem of_hidT {h : Heap} {H : Hp} {b : Addr} {o : Obj} (e : (hidT h H).get? b = some o) : h.get? b = some o ∧ H b = none := by
  have e' : h.get? b = some o := PySem.W.of_hideAll (trk h H) e
  refine ⟨e', ?_⟩
  cases q : H b with
  | none => rfl
  | some x =>
    have hm : b ∈ trk h H := List.mem_filter.mpr ⟨List.mem_range.mpr (Heap.lt_size e'), by simp [q]⟩
    have z : (hidT h H).get? b = none := PySem.W.hideAll_none (trk h H) hm
    rw [z] at e; cases e

/-! ### OpenK's ledger, filled with every new object but one -/
def allNews (g h : Heap) (L : Addr) : List (Addr × Obj) := (List.range h.objs.size).filterMap fun a => if a = L ∨ (g.get? a).isSome = true then none else (h.get? a).map fun o => (a, o)
def rest (g h : Heap) (L d : Addr) : List (Addr × Obj) := (allNews g h L).filter fun p => decide (p.1 ≠ d)
end L2

namespace L2
open PySem PySem.Spec PyProof.Rows

/-- the module's facts, over the base: the heap at the law's entry without what is tracked there -/
structure Mod (K : PySem.W.Frag) (mg : Str → Option Value) (base : Heap) : Prop where
  kin : K.In base
  glob : base.Ns mainGlobals mg
  blt : ∃ mb, base.Ns builtinsNs mb ∧ ∀ x : Str, x ≠ "__name__" → mb x = bootBuiltins x
  nolimit : base.NoLimit

/-- the context: a def's body (or a comprehension's block) running. base: fixed through the whole law; s₀, H₀: the entry; outer: the frames whose slots others may change (a def's callers); stack: all frames that run;
   ex: iterators that were made ahead of the entry and are walked here (a comprehension's); fn: the names whose cells were made at the entry (a def: all; a comprehension's block: its own); calm: not within an except suite; pn: pins that every state bears; xe: what is wanted of an exception that leaves the code -/
structure Cx where
  prog : Program
  w : World
  K : PySem.W.Frag
  mg : Str → Option Value
  base : Heap
  A : Around
  N : List Str
  s_0 : Shared
  H_0 : Hp
  env : Env
  outer : List Env
  stack : List Env
  ex : List Addr
  fn : Str → Bool
  calm : Bool
  pn : List (Addr × Obj)
  xe : Value → Shared → Prop
/-- the callers' frames -/
def frs (l : List Env) : List Addr := l.filterMap (·.frame)
abbrev Cx.fs (X : Cx) : List Addr := frs X.outer

def Vis (sc : Scope) (x : Str) : Prop := sc.names.lookup x = some .local ∨ sc.names.lookup x = some .cell ∨ sc.names.lookup x = some .free
def Loc (sc : Scope) (x : Str) : Prop := sc.names.lookup x = some .local ∨ sc.names.lookup x = some .cell
def Look (env : Env) (h : Heap) (m : Str → Option Value) (x : Str) (u : Value) : Prop :=
  (env.kindOf x = some .local ∧ m x = some u) ∨ ((env.kindOf x = some .cell ∨ env.kindOf x = some .free) ∧ ∃ c, env.cells.lookup x = some c ∧ h.IsCell c (some u))

structure Cx.Ok (X : Cx) : Prop where
  mod : Mod X.K X.mg X.base
  kind : X.env.scope.kind = .function
  glob : X.env.globals = mainGlobals
  blt : X.env.builtins = builtinsNs
  above : X.s_0.heap.objs.size ≤ X.env.locals
  inj : ∀ x y c, X.env.cells.lookup x = some c → X.env.cells.lookup y = some c → x = y
  has : ∀ x, (X.env.kindOf x = some .cell ∨ X.env.kindOf x = some .free) → ∃ c, X.env.cells.lookup x = some c
  cab : ∀ x c, X.fn x = true → X.env.cells.lookup x = some c → X.s_0.heap.objs.size ≤ c
  hd : X.calm = true → X.A.handled = none
  frames : X.A.frames = some X.stack
  stk : X.stack = X.outer ∨ (X.stack = X.env :: X.outer ∧ X.env.frame = some X.env.locals)
  exf : ∀ b ∈ X.ex, b ≠ X.env.locals ∧ ∀ x c, X.env.cells.lookup x = some c → c ≠ b
  bs : ∀ b o, X.base.get? b = some o → X.s_0.heap.get? b = some o ∧ X.H_0 b = none
  bsz : X.base.objs.size ≤ X.s_0.heap.objs.size
  noex : ∀ b o, X.base.get? b = some o → b ∉ X.ex
  exfs : ∀ b ∈ X.ex, b ∉ X.fs
  funs : X.s_0.heap.FunFrames X.base X.outer
  frf : ∀ b ∈ X.fs, X.H_0 b = none

structure Inv (X : Cx) (pins : List (Addr × Obj)) (σ : List (Option V)) (H : Hp) (s : Shared) : Prop where
  ok : X.Ok
  os : s.os = X.s_0.os
  bare : AllBare s.gens
  base : Un X.fs X.ex X.H_0 H X.s_0.heap s.heap
  loc : ∃ m, s.heap.Ns X.env.locals m ∧ ∀ (i : Nat) (x : Str) (v : V), X.N[i]? = some x → σ[i]? = some (some v) → Vis X.env.scope x → ∃ u, RelV v u ∧ Look X.env s.heap m x u
  cell : ∀ x c, X.env.cells.lookup x = some c → ∃ v, s.heap.IsCell c v
  free : H X.env.locals = none
  freeC : ∀ x c, X.env.cells.lookup x = some c → H c = none
  pin : ∀ p ∈ X.pn ++ pins, s.heap.get? p.1 = some p.2 ∧ H p.1 = none ∧ p.1 ≠ X.env.locals ∧ p.1 ∉ X.fs ∧ ∀ v, p.2.data ≠ .cell v
  hok : HOk X.prog X.w H s.heap
  len : σ.length = X.N.length

section
variable {X : Cx} {pins : List (Addr × Obj)} {σ : List (Option V)} {H H' : Hp} {s : Shared} {h' : Heap}

theorem Cx.Ok.nofr (ok : X.Ok) {b : Addr} {o : Obj} (e : X.base.get? b = some o) : b ∉ X.fs := fun hb => by
  have := (ok.funs.mem hb).1
  rw [e] at this; cases this
theorem Inv.bs (I : Inv X pins σ H s) : ∀ b o, X.base.get? b = some o → s.heap.get? b = some o ∧ H b = none := fun b o e =>
  ⟨I.base.keep b o (I.ok.bs b o e).1 (I.ok.bs b o e).2 (I.ok.nofr e) (I.ok.noex b o e), I.base.free b o (I.ok.bs b o e).1 (I.ok.bs b o e).2 (I.ok.noex b o e)⟩
theorem Inv.bk (I : Inv X pins σ H s) : ∀ b o, X.base.get? b = some o → s.heap.get? b = some o := fun b o e => (I.bs b o e).1
theorem Inv.mod (I : Inv X pins σ H s) : Mod X.K X.mg X.base := I.ok.mod
theorem Inv.kIn (I : Inv X pins σ H s) : X.K.In s.heap := I.ok.mod.kin.keeps I.bk
/-- the frame over the base: for OpenK's rules (K.In X.base is I.mod.kin) -/
theorem Inv.fr (I : Inv X pins σ H s) : ∃ m, Fr X.base X.env.locals s.heap m :=
  let ⟨m, hn, _⟩ := I.loc
  ⟨m, hn, I.bk, Nat.le_trans I.ok.bsz I.ok.above⟩
theorem Inv.lt (I : Inv X pins σ H s) : X.env.locals < s.heap.objs.size := let ⟨_, hn, _⟩ := I.loc; hn.lt
theorem Inv.sz (I : Inv X pins σ H s) : X.s_0.heap.objs.size ≤ s.heap.objs.size := Nat.le_trans I.ok.above (Nat.le_of_lt I.lt)
theorem Inv.nofs (I : Inv X pins σ H s) {a : Addr} (h : s.heap.objs.size ≤ a) : a ∉ X.fs := fun hb => by
  obtain ⟨_, o, ho, _⟩ := I.ok.funs.mem hb
  exact absurd (Nat.lt_of_lt_of_le (Heap.lt_size ho) (Nat.le_trans I.sz h)) (Nat.lt_irrefl _)
theorem Inv.cne (I : Inv X pins σ H s) : ∀ x c, X.env.cells.lookup x = some c → c ≠ X.env.locals := fun x c e z => by
  obtain ⟨v, o, ho, hd⟩ := I.cell x c e
  obtain ⟨m, ⟨o', es, ep, ho', hd', _⟩, _⟩ := I.loc
  rw [z, ho'] at ho; cases ho; rw [hd'] at hd; cases hd
theorem Inv.funs (I : Inv X pins σ H s) : s.heap.FunFrames X.base X.outer := by
  have all : ∀ (l : List Env), (∀ b ∈ frs l, b ∈ X.fs) → X.s_0.heap.FunFrames X.base l → s.heap.FunFrames X.base l := by
    intro l
    induction l with
    | nil => intro _ _; trivial
    | cons env r ih =>
      intro hs hl
      obtain ⟨hk, ⟨L, o, hf, hn, ho, hd⟩, hr⟩ := hl
      have hL : L ∈ X.fs := hs L (by unfold frs; rw [List.filterMap_cons, hf]; exact List.mem_cons_self)
      obtain ⟨sl, e⟩ := I.base.slot L o ho (I.ok.frf L hL) hL fun z => I.ok.exfs L z hL
      exact ⟨hk, ⟨L, _, hf, hn, e, hd⟩, ih (fun b hb => hs b (by unfold frs; rw [List.filterMap_cons, hf]; exact List.mem_cons_of_mem _ hb)) hr⟩
  exact all X.outer (fun _ hb => hb) I.ok.funs

/-- the frames that run, for a call -/
theorem Inv.stack (I : Inv X pins σ H s) : s.heap.FunFrames X.base X.stack := by
  rcases I.ok.stk with e | ⟨e, hf⟩
  · rw [e]; exact I.funs
  · rw [e]
    obtain ⟨m, hn, _⟩ := I.loc
    refine .cons (by rw [I.ok.kind]; decide) hf hn ?_ I.funs
    exact Heap.get?_none_of_le (Nat.le_trans I.ok.bsz I.ok.above)
theorem Inv.stkSub (I : Inv X pins σ H s) : ∀ b ∈ frs X.stack, b ∈ X.env.locals :: X.fs := fun b hb => by
  rcases I.ok.stk with e | ⟨e, hf⟩
  · rw [e] at hb; exact List.mem_cons_of_mem _ hb
  · rw [e] at hb
    unfold frs at hb
    rw [List.filterMap_cons, hf] at hb
    exact hb
theorem Inv.stkFree (I : Inv X pins σ H s) : ∀ b ∈ frs X.stack, H b = none := fun b hb => by
  rcases List.mem_cons.mp (I.stkSub b hb) with e | hb
  · rw [e]; exact I.free
  · obtain ⟨_, o, ho, _⟩ := I.ok.funs.mem hb
    exact I.base.free b o ho (I.ok.frf b hb) fun z => I.ok.exfs b z hb

/-- THE STEP: the untracked objects but the frame and the records at ch are kept (the callers' frames up to slots), the frame's map is kept, the new abstract heap is held -/
theorem Inv.step {g' : Array GenState} {t' : Nat} {d' : Drawn} {ch : List Addr} (I : Inv X pins σ H s)
    (hch : ∀ b ∈ ch, (b ∈ X.ex ∨ X.s_0.heap.objs.size ≤ b) ∧ b ≠ X.env.locals ∧ (∀ x c, X.env.cells.lookup x = some c → c ≠ b) ∧ ∀ p ∈ X.pn ++ pins, p.1 ≠ b)
    (keep : ∀ b o, b ≠ X.env.locals → b ∉ X.fs → b ∉ ch → s.heap.get? b = some o → H b = none → h'.get? b = some o)
    (slot : ∀ b o, b ≠ X.env.locals → b ∈ X.fs → b ∉ ch → s.heap.get? b = some o → H b = none → ∃ sl, h'.get? b = some { o with slots := sl }) (free : ∀ b o, b ∉ ch → s.heap.get? b = some o → H b = none → H' b = none)
    (there : ∀ b o, b ∉ ch → s.heap.get? b = some o → ∃ o', h'.get? b = some o')
    (tups : ∀ b xs, H b = some (.tup xs) → H' b = some (.tup xs)) (frzs : ∀ b o u, H b = some (.frz o u) → H' b = some (.frz o u)) (tbls : ∀ b ps, H b = some (.tbl ps) → ∃ more, H' b = some (.tbl (ps ++ more)))
    (ns : ∀ m, s.heap.Ns X.env.locals m → h'.Ns X.env.locals m) (hok : HOk X.prog X.w H' h') (hg : AllBare g') :
    Inv X pins σ H' { s with heap := h', gens := g', drawn := d', toks := t' } := by
  have neL : ∀ b o, X.s_0.heap.get? b = some o → b ≠ X.env.locals := fun b o e => Nat.ne_of_lt (Nat.lt_of_lt_of_le (Heap.lt_size e) I.ok.above)
  have neC : ∀ b o, X.s_0.heap.get? b = some o → b ∉ X.ex → b ∉ ch := fun b o e hx hb => by
    rcases (hch b hb).1 with z | z
    · exact hx z
    · exact absurd (Nat.lt_of_lt_of_le (Heap.lt_size e) z) (Nat.lt_irrefl _)
  have cellK : ∀ x c, X.env.cells.lookup x = some c → ∀ v, s.heap.IsCell c v → h'.IsCell c v := fun x c e v ⟨o, ho, hd⟩ => by
    have nch : c ∉ ch := fun z => (hch c z).2.2.1 x c e rfl
    by_cases hc : c ∈ X.fs
    · obtain ⟨sl, q⟩ := slot c o (I.cne x c e) hc nch ho (I.freeC x c e)
      exact ⟨_, q, hd⟩
    · exact ⟨o, keep c o (I.cne x c e) hc nch ho (I.freeC x c e), hd⟩
  refine ⟨I.ok, I.os, hg, ⟨fun b o e n hb hx => ?_, fun b o e n hb hx => ?_, fun b o e n hx => ?_, fun b o e hx => ?_, fun b xs e => tups b xs (I.base.tups b xs e), fun b o xs e => frzs b o xs (I.base.frzs b o xs e), fun b ps e => ?_⟩, ?_, fun x c e => ?_, ?_, fun x c e => ?_, fun p hp => ?_, hok, I.len⟩
  · exact keep b o (neL b o e) hb (neC b o e hx) (I.base.keep b o e n hb hx) (I.base.free b o e n hx)
  · obtain ⟨sl, e1⟩ := I.base.slot b o e n hb hx
    obtain ⟨sl', e2⟩ := slot b _ (neL b o e) hb (neC b o e hx) e1 (I.base.free b o e n hx)
    exact ⟨sl', e2⟩
  · obtain ⟨o', e1⟩ := I.base.there b o e hx
    exact free b o' (neC b o e hx) e1 (I.base.free b o e n hx)
  · obtain ⟨o', e1⟩ := I.base.there b o e hx
    exact there b o' (neC b o e hx) e1
  · obtain ⟨m1, e1⟩ := I.base.tbls b ps e
    obtain ⟨m2, e2⟩ := tbls b _ e1
    exact ⟨m1 ++ m2, by rw [e2, Array.append_assoc]⟩
  · obtain ⟨m, hn, hl⟩ := I.loc
    refine ⟨m, ns m hn, fun i x v e1 e2 e3 => ?_⟩
    obtain ⟨u, r, l⟩ := hl i x v e1 e2 e3
    refine ⟨u, r, ?_⟩
    rcases l with l | ⟨k, c, e, z⟩
    · exact .inl l
    · exact .inr ⟨k, c, e, cellK x c e _ z⟩
  · obtain ⟨v, z⟩ := I.cell x c e
    exact ⟨v, cellK x c e v z⟩
  · obtain ⟨m, ⟨o, _, _, ho, _⟩, _⟩ := I.loc
    exact free _ o (fun z => (hch _ z).2.1 rfl) ho I.free
  · obtain ⟨v, o, ho, hd⟩ := I.cell x c e
    exact free c o (fun z => (hch c z).2.2.1 x c e rfl) ho (I.freeC x c e)
  · obtain ⟨e, n, ne, nf, d⟩ := I.pin p hp
    have nch : p.1 ∉ ch := fun z => (hch p.1 z).2.2.2 p hp rfl
    exact ⟨keep p.1 p.2 ne nf nch e n, free p.1 p.2 nch e n, ne, nf, d⟩
/-- .. where the frame's own object is kept too -/
theorem Inv.un {t' : Nat} (I : Inv X pins σ H s) (u : Un X.fs [] H H' s.heap h') (hok : HOk X.prog X.w H' h') : Inv X pins σ H' { s with heap := h', toks := t' } := by
  obtain ⟨m, ⟨o, es, ep, ho, r⟩, _⟩ := id I.loc
  obtain ⟨sl, hL⟩ := u.any ho I.free (by simp)
  exact I.step (g' := s.gens) (d' := s.drawn) (ch := []) (fun _ z => nomatch z) (fun b o _ hb _ e n => u.keep b o e n hb (by simp)) (fun b o _ hb _ e n => u.slot b o e n hb (by simp)) (fun b o _ e n => u.free b o e n (by simp)) (fun b o _ e => u.there b o e (by simp)) u.tups u.frzs u.tbls (fun m' hm => by
    obtain ⟨o', es', ep', ho', r'⟩ := hm
    rw [ho] at ho'; cases ho'
    exact ⟨_, es', ep', hL, r'⟩) hok I.bare
/-- behind a call (or a comprehension's block): the slots of this frame may have changed too, the records at ch may have turned -/
theorem Inv.call {g' : Array GenState} {t' : Nat} {d' : Drawn} {ch : List Addr} (I : Inv X pins σ H s) (u : Un (frs X.stack) ch H H' s.heap h') (hok : HOk X.prog X.w H' h') (hg : AllBare g')
    (hch : ∀ b ∈ ch, (b ∈ X.ex ∨ X.s_0.heap.objs.size ≤ b) ∧ b ≠ X.env.locals ∧ (∀ x c, X.env.cells.lookup x = some c → c ≠ b) ∧ ∀ p ∈ X.pn ++ pins, p.1 ≠ b) :
    Inv X pins σ H' { s with heap := h', gens := g', drawn := d', toks := t' } := by
  obtain ⟨m, ⟨o, es, ep, ho, r⟩, _⟩ := id I.loc
  obtain ⟨sl, hL⟩ := u.any ho I.free fun z => (hch _ z).2.1 rfl
  exact I.step (ch := ch) hch (fun b o hL hb hc e n => u.keep b o e n (fun z => (List.mem_cons.mp (I.stkSub b z)).elim hL hb) hc) (fun b o _ _ hc e n => u.any e n hc) (fun b o hc e n => u.free b o e n hc) (fun b o hc e => u.there b o e hc) u.tups u.frzs u.tbls (fun m' hm => by
    obtain ⟨o', es', ep', ho', r'⟩ := hm
    rw [ho] at ho'; cases ho'
    exact ⟨_, es', ep', hL, r'⟩) hok hg
/-- an untracked record of ours (an iterator) has turned -/
theorem Inv.turned {t' : Nat} {it : Addr} (I : Inv X pins σ H s) (k : ∀ b o, b ≠ it → s.heap.get? b = some o → h'.get? b = some o) (hn : H it = none) (hL : it ≠ X.env.locals)
    (h1 : it ∈ X.ex ∨ X.s_0.heap.objs.size ≤ it) (h2 : ∀ x c, X.env.cells.lookup x = some c → c ≠ it) (h3 : ∀ p ∈ X.pn ++ pins, p.1 ≠ it) : Inv X pins σ H { s with heap := h', toks := t' } := by
  have nit : ∀ b u, H b = some u → b ≠ it := fun b u e z => by rw [z, hn] at e; cases e
  refine I.step (g' := s.gens) (d' := s.drawn) (ch := [it]) (fun b hb => ?_) (fun b o _ _ hc e _ => k b o (fun z => hc (by simp [z])) e) (fun b o _ _ hc e _ => ⟨o.slots, k b o (fun z => hc (by simp [z])) e⟩) (fun _ _ _ _ n => n)
    (fun b o hc e => ⟨o, k b o (fun z => hc (by simp [z])) e⟩) (fun _ _ e => e) (fun _ _ _ e => e) (fun b ps e => ⟨#[], by rw [e]; simp⟩) (fun m hm => ?_) (fun b u e => ?_) I.bare
  · have e : b = it := by simpa using hb
    subst e
    exact ⟨h1, hL, h2, h3⟩
  · obtain ⟨o, es, ep, ho, r⟩ := hm
    exact ⟨o, es, ep, k _ o (Ne.symm hL) ho, r⟩
  · refine (I.hok b u e).stay (fun c v hc q => k c v ?_ q) (fun _ q => q) fun _ _ q => q
    rcases hc with z | z
    · rw [z]; exact nit b u e
    · exact nit c _ z
theorem Inv.tok (I : Inv X pins σ H s) (t : Nat) : Inv X pins σ H { s with toks := t } := I.un (h' := s.heap) (t' := t) Un.refl I.hok
/-- all objects kept -/
theorem Inv.kept {t' : Nat} (I : Inv X pins σ H s) (k : ∀ b u, s.heap.get? b = some u → h'.get? b = some u) : Inv X pins σ H { s with heap := h', toks := t' } := I.un (Un.kept k) (I.hok.kept k)
/-- a new object laid and tracked -/
theorem Inv.laid {a : Addr} {o : HO} {t' : Nat} (I : Inv X pins σ H s) (k : ∀ b u, s.heap.get? b = some u → h'.get? b = some u) (hp : s.heap.objs.size ≤ a) (new : ObjOk X.prog X.w (upd H a o) h' a o) :
    Inv X pins σ (upd H a o) { s with heap := h', toks := t' } := I.un (Un.laid k hp (I.hok.fresh hp)) (I.hok.laid k hp new)
/-- an object written -/
theorem Inv.write {x e : Addr} {o : HO} {t' : Nat} (I : Inv X pins σ H s) (mu : Mut (H x)) (he : e = x ∨ H e = some (.own x)) (k : ∀ b u, b ≠ e → s.heap.get? b = some u → h'.get? b = some u) (heo : ∃ u, h'.get? e = some u)
    (new : ObjOk X.prog X.w (upd H x o) h' x o) : Inv X pins σ (upd H x o) { s with heap := h', toks := t' } := I.un (Un.write mu he k heo) (I.hok.write mu he k heo new)
/-- forgetting slots, pins -/
theorem Inv.weak {σ' : List (Option V)} (I : Inv X pins σ H s) (hl : σ'.length = σ.length) (w : ∀ (i : Nat) v, σ'[i]? = some (some v) → σ[i]? = some (some v)) : Inv X pins σ' H s :=
  ⟨I.ok, I.os, I.bare, I.base, let ⟨m, hn, hl'⟩ := I.loc; ⟨m, hn, fun i x v e1 e2 e3 => hl' i x v e1 (w i v e2) e3⟩, I.cell, I.free, I.freeC, I.pin, I.hok, hl.trans I.len⟩
theorem Inv.pins_of {pins' : List (Addr × Obj)} (I : Inv X pins σ H s) (h : ∀ p ∈ pins', s.heap.get? p.1 = some p.2 ∧ H p.1 = none ∧ p.1 ≠ X.env.locals ∧ p.1 ∉ X.fs ∧ ∀ v, p.2.data ≠ .cell v) : Inv X pins' σ H s :=
  ⟨I.ok, I.os, I.bare, I.base, I.loc, I.cell, I.free, I.freeC, fun p hp => (List.mem_append.mp hp).elim (fun z => I.pin p (List.mem_append_left _ z)) (h p), I.hok, I.len⟩

theorem nodup_ix {N : List Str} (hN : N.Nodup) {i j : Nat} {x : Str} (a : N[i]? = some x) (b : N[j]? = some x) : i = j := by
  obtain ⟨h1, e1⟩ := List.getElem?_eq_some_iff.mp a
  obtain ⟨h2, e2⟩ := List.getElem?_eq_some_iff.mp b
  exact (List.getElem_inj hN).mp (e1.trans e2.symm)

/-- a name is stored; what changed -/
theorem store_ok2 {M : Model} {A : Around} {E : Value → Shared → Prop} {i : Nat} {x : Str} {v : V} {u : Value} {Q : Unit → Shared → Prop} (I : Inv X pins σ H s) (hN : X.N.Nodup) (hi : X.N[i]? = some x) (hx : Loc X.env.scope x) (r : RelV v u)
    (h : ∀ s', Inv X pins (σ.set i (some v)) H s' → (∃ a, Heap.SameBut a s.heap s'.heap ∧ (a = X.env.locals ∨ X.env.cells.lookup x = some a)) → Q () s') (hf : X.fn x = true ∨ X.env.scope.names.lookup x = some .local := by first | exact .inl rfl | exact .inr rfl | assumption) : wpAny M A (storeName X.env x u) Q E s := by
  obtain ⟨m, hn, hl⟩ := id I.loc
  have hcls : (X.env.scope.kind == .class || (X.env.scope.kind == .module && X.env.locals != X.env.globals)) = false := by rw [I.ok.kind]; rfl
  have hiσ : i < σ.length := by rw [I.len]; exact (List.getElem?_eq_some_iff.mp hi).1
  have cne := I.cne
  have tracked : ∀ {a : Addr} {h' : Heap}, (∃ o, s.heap.get? a = some o ∧ H a = none) → Heap.SameBut a s.heap h' → HOk X.prog X.w H h' := fun {a h'} ha hs b ob e => by
    obtain ⟨_, _, hfree⟩ := ha
    refine (I.hok b ob e).stay (fun c w' hc q => (hs.2 c ?_).trans q) (fun _ q => q) fun _ _ q => q
    rintro rfl
    rcases hc with rfl | hc
    · rw [hfree] at e; cases e
    · rw [hfree] at hc; cases hc
  rcases hx with hk | hk
  · refine wpAny_storeName_local hk hn (fun h' hn' hs => ?_) hcls
    obtain ⟨oL, _, _, hoL, _⟩ := id hn
    refine h _ ⟨I.ok, I.os, I.bare, ⟨fun b o e n hb hx => ?_, fun b o e n hb hx => ?_, I.base.free, fun b o e hx => ?_, I.base.tups, I.base.frzs, I.base.tbls⟩, ⟨_, hn', fun j y v' e1 e2 e3 => ?_⟩, fun y c e => ?_, I.free, I.freeC, fun p hp => ?_, tracked ⟨oL, hoL, I.free⟩ hs, by simpa using I.len⟩ ⟨_, hs, .inl rfl⟩
    · exact (hs.2 b (Nat.ne_of_lt (Nat.lt_of_lt_of_le (Heap.lt_size e) I.ok.above))).trans (I.base.keep b o e n hb hx)
    · obtain ⟨sl, e1⟩ := I.base.slot b o e n hb hx
      exact ⟨sl, (hs.2 b (Nat.ne_of_lt (Nat.lt_of_lt_of_le (Heap.lt_size e) I.ok.above))).trans e1⟩
    · obtain ⟨o', e1⟩ := I.base.there b o e hx
      exact ⟨o', (hs.2 b (Nat.ne_of_lt (Nat.lt_of_lt_of_le (Heap.lt_size e) I.ok.above))).trans e1⟩
    · by_cases hj : j = i
      · subst hj
        rw [hi] at e1; cases e1
        rw [List.getElem?_set_self hiσ] at e2
        cases e2
        exact ⟨u, r, .inl ⟨hk, by simp⟩⟩
      · rw [List.getElem?_set_ne (Ne.symm hj)] at e2
        obtain ⟨u', r', q⟩ := hl j y v' e1 e2 e3
        refine ⟨u', r', ?_⟩
        rcases q with ⟨k, e⟩ | ⟨k, c, e, z⟩
        · refine .inl ⟨k, ?_⟩
          have : y ≠ x := fun e => hj (nodup_ix hN e1 (e ▸ hi))
          simp [this, e]
        · exact .inr ⟨k, c, e, z.sameBut hs (cne y c e)⟩
    · obtain ⟨w', z⟩ := I.cell y c e
      exact ⟨w', z.sameBut hs (cne y c e)⟩
    · obtain ⟨e, n, ne, nf, d⟩ := I.pin p hp
      exact ⟨(hs.2 p.1 ne).trans e, n, ne, nf, d⟩
  · have hfn : X.fn x = true := by
      rcases hf with z | z
      · exact z
      · rw [z] at hk; cases hk
    obtain ⟨c, hc⟩ := I.ok.has x (.inl hk)
    obtain ⟨w', z⟩ := I.cell x c hc
    refine wpAny_storeName_cell I.ok.kind hk hc z (fun h' hc' hs => ?_)
    obtain ⟨oc, hoc, hocd⟩ := id z
    refine h { s with heap := h' } ⟨I.ok, I.os, I.bare, ⟨fun b o e n hb hx => ?_, fun b o e n hb hx => ?_, I.base.free, fun b o e hx => ?_, I.base.tups, I.base.frzs, I.base.tbls⟩, ⟨m, hn.sameBut hs (Ne.symm (cne x c hc)), fun j y v' e1 e2 e3 => ?_⟩, fun y c' e => ?_, I.free, I.freeC, fun p hp => ?_, tracked ⟨oc, hoc, I.freeC x c hc⟩ hs, by simpa using I.len⟩ ⟨c, hs, .inr hc⟩
    · exact (hs.2 b (Nat.ne_of_lt (Nat.lt_of_lt_of_le (Heap.lt_size e) (I.ok.cab x c hfn hc)))).trans (I.base.keep b o e n hb hx)
    · obtain ⟨sl, e1⟩ := I.base.slot b o e n hb hx
      exact ⟨sl, (hs.2 b (Nat.ne_of_lt (Nat.lt_of_lt_of_le (Heap.lt_size e) (I.ok.cab x c hfn hc)))).trans e1⟩
    · obtain ⟨o', e1⟩ := I.base.there b o e hx
      exact ⟨o', (hs.2 b (Nat.ne_of_lt (Nat.lt_of_lt_of_le (Heap.lt_size e) (I.ok.cab x c hfn hc)))).trans e1⟩
    · by_cases hj : j = i
      · subst hj
        rw [hi] at e1; cases e1
        rw [List.getElem?_set_self hiσ] at e2
        cases e2
        exact ⟨u, r, .inr ⟨.inl hk, c, hc, hc'⟩⟩
      · rw [List.getElem?_set_ne (Ne.symm hj)] at e2
        obtain ⟨u', r', q⟩ := hl j y v' e1 e2 e3
        refine ⟨u', r', ?_⟩
        rcases q with q | ⟨k, c', e, z'⟩
        · exact .inl q
        · refine .inr ⟨k, c', e, z'.sameBut hs ?_⟩
          rintro rfl
          exact hj (nodup_ix hN e1 (I.ok.inj _ _ _ e hc ▸ hi))
    · by_cases hcc : c' = c
      · subst hcc; exact ⟨_, hc'⟩
      · obtain ⟨w2, z2⟩ := I.cell y c' e
        exact ⟨w2, z2.sameBut hs hcc⟩
    · obtain ⟨e, n, ne, nf, d⟩ := I.pin p hp
      refine ⟨(hs.2 p.1 ?_).trans e, n, ne, nf, d⟩
      intro q
      rw [q, hoc] at e
      have q' : oc = p.2 := Option.some.inj e
      exact d w' (by rw [← q']; exact hocd)
theorem store_ok {M : Model} {A : Around} {E : Value → Shared → Prop} {i : Nat} {x : Str} {v : V} {u : Value} {Q : Unit → Shared → Prop} (I : Inv X pins σ H s) (hN : X.N.Nodup) (hi : X.N[i]? = some x) (hx : Loc X.env.scope x) (r : RelV v u)
    (h : ∀ s', Inv X pins (σ.set i (some v)) H s' → Q () s') (hf : X.fn x = true ∨ X.env.scope.names.lookup x = some .local := by first | exact .inl rfl | exact .inr rfl | assumption) : wpAny M A (storeName X.env x u) Q E s :=
  store_ok2 I hN hi hx r (fun s' I' _ => h s' I') hf
/-- behind a call or a block, the state as it is -/
theorem Inv.call' {s' : Shared} {ch : List Addr} (I : Inv X pins σ H s) (ho : s'.os = s.os) (u : Un (frs X.stack) ch H H' s.heap s'.heap) (hok : HOk X.prog X.w H' s'.heap) (hg : AllBare s'.gens)
    (hch : ∀ b ∈ ch, (b ∈ X.ex ∨ X.s_0.heap.objs.size ≤ b) ∧ b ≠ X.env.locals ∧ (∀ x c, X.env.cells.lookup x = some c → c ≠ b) ∧ ∀ p ∈ X.pn ++ pins, p.1 ≠ b) : Inv X pins σ H' s' := by
  obtain ⟨h', g', d', t', o'⟩ := s'
  have e : o' = s.os := ho
  subst e
  exact I.call (g' := g') (t' := t') (d' := d') u hok hg hch
end

/-! ### the judgements -/
/-- an exception: its class, its own dict's address (where it has one), the abstract heap behind it -/
abbrev XK := Value → Option Addr → Hp → Prop
abbrev St := List (Option V)
abbrev VK := V → Hp → Prop
/-- an expression's reading; a test's; an argument list's -/
abbrev TE := St → Hp → VK → Prop
abbrev TT := St → Hp → (Bool → Hp → Prop) → Prop
abbrev TA := St → Hp → (List V → Hp → Prop) → Prop
/-- what is wanted behind a statement -/
structure Ends where
  nx : St → Hp → Prop
  rt : VK
  bk : St → Hp → Prop := fun _ _ => False
  ct : St → Hp → Prop := fun _ _ => False
abbrev TS := Ends → St → Hp → Prop

def EP (X : Cx) (pins : List (Addr × Obj)) (σ : St) (Q : VK) (u : Value) (s' : Shared) : Prop := ∃ v H', Inv X pins σ H' s' ∧ RelV v u ∧ Q v H'
def TP (X : Cx) (pins : List (Addr × Obj)) (σ : St) (Q : Bool → Hp → Prop) (b : Bool) (s' : Shared) : Prop := ∃ H', Inv X pins σ H' s' ∧ Q b H'
def AP (X : Cx) (pins : List (Addr × Obj)) (σ : St) (Q : List V → Hp → Prop) (us : List Value) (s' : Shared) : Prop := ∃ vs H', Inv X pins σ H' s' ∧ Vals vs us ∧ Q vs H'
def SP (X : Cx) (pins : List (Addr × Obj)) (D : Ends) (f : Flow) (s' : Shared) : Prop :=
  match f with
  | .next => ∃ σ' H', Inv X pins σ' H' s' ∧ D.nx σ' H'
  | .brk => ∃ σ' H', Inv X pins σ' H' s' ∧ D.bk σ' H'
  | .cont => ∃ σ' H', Inv X pins σ' H' s' ∧ D.ct σ' H'
  | .ret u => ∃ v σ' H', Inv X pins σ' H' s' ∧ RelV v u ∧ D.rt v H'

def PE (X : Cx) (e : Expr) (t : TE) : Prop :=
  ∀ (pins : List (Addr × Obj)) (s : Shared) (σ : St) (H : Hp) (Q : VK), Inv X pins σ H s → t σ H Q → wpAny (model X.prog X.w) X.A (eval e X.env) (EP X pins σ Q) X.xe s
def PT (X : Cx) (e : Expr) (t : TT) : Prop :=
  ∀ (pins : List (Addr × Obj)) (s : Shared) (σ : St) (H : Hp) (Q : Bool → Hp → Prop), Inv X pins σ H s → t σ H Q → wpAny (model X.prog X.w) X.A (isTrue e X.env (eval e X.env)) (TP X pins σ Q) X.xe s
/-- a test whatever its 'whole' is (and, or) -/
def PW (X : Cx) (e : Expr) (t : TT) : Prop :=
  ∀ (whole : Sem Value) (pins : List (Addr × Obj)) (s : Shared) (σ : St) (H : Hp) (Q : Bool → Hp → Prop), Inv X pins σ H s → t σ H Q → wpAny (model X.prog X.w) X.A (isTrue e X.env whole) (TP X pins σ Q) X.xe s
theorem PW.pt {X : Cx} {e : Expr} {t : TT} (h : PW X e t) : PT X e t := h _
/-- an argument list (no star), from the left -/
def PA (X : Cx) (es : List Expr) (t : TA) : Prop :=
  ∀ (pos : Pos) (pins : List (Addr × Obj)) (s : Shared) (σ : St) (H : Hp) (Q : List V → Hp → Prop), Inv X pins σ H s → t σ H Q → wpAny (model X.prog X.w) X.A (spliced (backTo pos (starEach es X.env))) (AP X pins σ Q) X.xe s
def PS (X : Cx) (st : Stmt) (t : TS) : Prop :=
  ∀ (pins : List (Addr × Obj)) (s : Shared) (σ : St) (H : Hp) (D : Ends), Inv X pins σ H s → t D σ H → wpAny (model X.prog X.w) X.A (exec st X.env) (SP X pins D) X.xe s
def PSs (X : Cx) (st : List Stmt) (t : TS) : Prop :=
  ∀ (pins : List (Addr × Obj)) (s : Shared) (σ : St) (H : Hp) (D : Ends), Inv X pins σ H s → t D σ H → wpAny (model X.prog X.w) X.A (execs st X.env) (SP X pins D) X.xe s
/-- weaken the end -/
theorem thn {α : Type} {t : Sem α} {Q Q' : α → Shared → Prop} {M : Model} {A : Around} {E : Value → Shared → Prop} {s : Shared} (h : wpAny M A t Q E s) (hQ : ∀ a s, Q a s → Q' a s) : wpAny M A t Q' E s := wpAny_mono h hQ fun _ _ x => x
end L2

namespace L2
open PySem PySem.Spec PyProof.Rows
section
variable {X : Cx}

/-- two expressions in a row -/
theorem bin {a b : Expr} {ta tb : TE} (ha : PE X a ta) (hb : PE X b tb) {pins : List (Addr × Obj)} {s : Shared} {σ : St} {H : Hp} {R : V → V → Hp → Prop} (I : Inv X pins σ H s) (h : ta σ H fun x H1 => tb σ H1 fun y H2 => R x y H2)
    {α : Type} {Q : α → Shared → Prop} {f : Value → Value → Sem α}
    (hf : ∀ v u s2 x y H2, Inv X pins σ H2 s2 → RelV x v → RelV y u → R x y H2 → wpAny (model X.prog X.w) X.A (f v u) Q X.xe s2) :
    wpAny (model X.prog X.w) X.A (eval a X.env) (fun v s₁ => wpAny (model X.prog X.w) X.A (eval b X.env) (fun u s₂ => wpAny (model X.prog X.w) X.A (f v u) Q X.xe s₂) X.xe s₁) X.xe s := by
  refine thn (ha pins s σ H _ I h) fun v s1 ⟨x, H1, I1, r1, q1⟩ => ?_
  refine thn (hb pins s1 σ H1 _ I1 q1) fun u s2 ⟨y, H2, I2, r2, q2⟩ => ?_
  exact hf v u s2 x y H2 I2 r1 r2 q2

/-! ### names and constants -/
def tVar (i : Nat) : TE := fun σ H Q => ∃ v, σ[i]? = some (some v) ∧ Q v H
def tC (v : V) : TE := fun _ H Q => Q v H
theorem pe_var {i : Nat} {x : Str} {pos : Pos} (hN : X.N[i]? = some x) (hv : Vis X.env.scope x) (hd : (x == ("__debug__" : Str)) = false := by decide) (hcd : (x == ("__classdict__" : Str)) = false := by decide) : PE X (.Name x pos) (tVar i) := by
  intro pins s σ H Q I h
  obtain ⟨v, e, h⟩ := h
  obtain ⟨m, hn, hl⟩ := I.loc
  obtain ⟨u, r, l⟩ := hl i x v hN e hv
  have fin : EP X pins σ Q u s := ⟨v, H, I, r, h⟩
  rcases l with ⟨hk, hm⟩ | ⟨hk, c, hc, hcell⟩
  · exact wpAny_Name (wpAny_loadName_local I.ok.kind hk hn hm fin) hd
  · rcases hk with hk | hk
    · exact wpAny_Name (wpAny_loadName_cell I.ok.kind hk hc hcell fin) hd
    · exact wpAny_Name (wpAny_loadName_free I.ok.kind hk hc hcell fin hcd) hd
theorem pe_int {i j pos} : PE X (.Constant (.int i) j pos) (tC (.int i)) := fun _ _ _ H _ I h => wpAny_Constant_int ⟨.int i, H, I.tok _, ⟨_, rfl⟩, h⟩
theorem pe_bl {b j pos} : PE X (.Constant (.bool b) j pos) (tC (.bl b)) := fun _ _ _ H _ I h => Constant_bool ⟨.bl b, H, I, rfl, h⟩
theorem pe_non {j pos} : PE X (.Constant .none j pos) (tC .non) := fun _ _ _ H _ I h => Constant_none ⟨.non, H, I, rfl, h⟩
/-- a global name of the def -/
def Gl (X : Cx) (x : Str) : Prop := X.env.kindOf x = some .globalImplicit
theorem ld_glob {E : Value → Shared → Prop} {pins : List (Addr × Obj)} {s : Shared} {σ : St} {H : Hp} {x : Str} {u : Value} {pos : Pos} {Q : Value → Shared → Prop} (I : Inv X pins σ H s) (hg : Gl X x) (hm : X.mg x = some u) (h : Q u s)
    (hd : (x == ("__debug__" : Str)) = false := by decide) : wpAny (model X.prog X.w) X.A (eval (.Name x pos) X.env) Q E s :=
  Calls.Name_function_global I.ok.kind hg (Calls.loadGlobal_global (by rw [I.ok.glob]; exact I.mod.glob.keeps I.bk) hm h) hd
theorem ld_blt {E : Value → Shared → Prop} {pins : List (Addr × Obj)} {s : Shared} {σ : St} {H : Hp} {x : Str} {u : Value} {pos : Pos} {Q : Value → Shared → Prop} (I : Inv X pins σ H s) (hg : Gl X x) (hm : X.mg x = none) (hv : bootBuiltins x = some u) (h : Q u s)
    (hn : x ≠ "__name__" := by decide) (hd : (x == ("__debug__" : Str)) = false := by decide) : wpAny (model X.prog X.w) X.A (eval (.Name x pos) X.env) Q E s := by
  obtain ⟨mb, h1, h2⟩ := I.mod.blt
  exact Calls.Name_function_global I.ok.kind hg (Calls.loadGlobal_builtin (by rw [I.ok.glob]; exact I.mod.glob.keeps I.bk) hm (by rw [I.ok.blt]; exact h1.keeps I.bk) ((h2 x hn).trans hv) h) hd
/-- a module's constant, a class, a function, as a value -/
theorem pe_glob {x : Str} {v : V} {u : Value} {pos : Pos} (hg : Gl X x) (hm : X.mg x = some u) (r : RelV v u) (hd : (x == ("__debug__" : Str)) = false := by decide) : PE X (.Name x pos) (tC v) :=
  fun _ _ _ H _ I h => ld_glob I hg hm ⟨v, H, I, r, h⟩ hd
/-! ### arithmetic -/
/-- two ints -/
def t2I (ta tb : TE) (k : Int → Int → Hp → Prop) : St → Hp → Prop := fun σ H => ta σ H fun x H1 => tb σ H1 fun y H2 => ∃ i j, x = .int i ∧ y = .int j ∧ k i j H2
def tAdd (ta tb : TE) : TE := fun σ H Q => t2I ta tb (fun i j H2 => Q (.int (i + j)) H2) σ H
def tSub (ta tb : TE) : TE := fun σ H Q => t2I ta tb (fun i j H2 => Q (.int (i - j)) H2) σ H
/-- the left factor below 2^64 -/
def tMul (ta tb : TE) : TE := fun σ H Q => t2I ta tb (fun i j H2 => (-(2 ^ 64) < i ∧ i < 2 ^ 64) ∧ Q (.int (i * j)) H2) σ H
variable {a b : Expr} {ta tb : TE} {pos : Pos}
/-! ### comparisons -/
def PC (X : Cx) (op : CmpOp) (a b : Expr) (t : TE) : Prop :=
  ∀ (pins : List (Addr × Obj)) (s : Shared) (σ : St) (H : Hp) (Q : VK), Inv X pins σ H s → t σ H Q →
    wpAny (model X.prog X.w) X.A (eval a X.env) (fun v s₁ => wpAny (model X.prog X.w) X.A (eval b X.env) (fun u s₂ => wpAny (model X.prog X.w) X.A (compareOp op v u) (EP X pins σ Q) X.xe s₂) X.xe s₁) X.xe s
def tCmp (p : Int → Int → Bool) (ta tb : TE) : TE := fun σ H Q => t2I ta tb (fun i j H2 => Q (.bl (p i j)) H2) σ H
abbrev tLt : TE → TE → TE := tCmp fun i j => decide (i < j)
abbrev tLe : TE → TE → TE := tCmp fun i j => decide (i ≤ j)
abbrev tGt : TE → TE → TE := tCmp fun i j => decide (j < i)
abbrev tGe : TE → TE → TE := tCmp fun i j => decide (j ≤ i)
abbrev tEqI : TE → TE → TE := tCmp fun i j => decide (i = j)
abbrev tNeI : TE → TE → TE := tCmp fun i j => !decide (i = j)
/-- is None -/
def tIsN (ta : TE) : TE := fun σ H Q => ta σ H fun x H1 => Q (.bl (decide (x = .non))) H1
def tNotN (ta : TE) : TE := fun σ H Q => ta σ H fun x H1 => Q (.bl (!decide (x = .non))) H1
/-- a comparison as a value, as a test -/
def tB (t : TE) : TT := fun σ H Q => t σ H fun x H1 => ∃ c, x = .bl c ∧ Q c H1
theorem pt_cmp {op : CmpOp} {t : TE} (h : PC X op a b t) (h1 : behindInMarks op b = false := by first | exact nobehind _ (by decide) (by decide) | rfl) : PT X (.Compare a [op] [b] pos) (tB t) := by
  intro pins s σ H Q I hw
  refine wpAny_isTrue_Compare1 (thn (h pins s σ H _ I hw) fun v s1 h1 => thn h1 fun u s2 h2 => thn h2 fun c s3 ⟨x, H1, I1, r1, q1⟩ => ?_) h1
  obtain ⟨d, rfl, q⟩ := q1
  cases r1
  exact wpAny_truthy_bool ⟨H1, I1, q⟩
/-- an expression whose value is a bool, as a test -/
theorem pt_val {e : Expr} {t : TE} (h : PE X e t) (he : ∀ whole, isTrue e X.env whole = (do let v ← whole; standAt e.pos; holding [v] (truthy v)) := by intro _; rfl) : PT X e (tB t) := by
  intro pins s σ H Q I hw
  refine isTrue_plain (thn (h pins s σ H _ I hw) fun v s1 ⟨x, H1, I1, r1, q1⟩ => ?_) (he _)
  obtain ⟨d, rfl, q⟩ := q1
  cases r1
  exact wpAny_truthy_bool ⟨H1, I1, q⟩

/-! ### and, or, not -/
variable {tA tB' : TT} {rest : List Expr}
def tAnd (t u : TT) : TT := fun σ H Q => t σ H fun c H1 => if c = true then u σ H1 Q else Q false H1
def tOr (t u : TT) : TT := fun σ H Q => t σ H fun c H1 => if c = true then Q true H1 else u σ H1 Q
def tNot (t : TT) : TT := fun σ H Q => t σ H fun c H1 => Q (!c) H1
theorem pw_and1 (ha : PT X a tA) : PW X (.BoolOp .And [a] pos) tA := by
  intro wh pins s σ H Q I h
  refine isTrue_and (thn (ha pins s σ H Q I h) fun c s1 e => ?_)
  cases c with
  | true => exact isTrue_and_nil e
  | false => exact e
theorem pw_or1 (ha : PT X a tA) : PW X (.BoolOp .Or [a] pos) tA := by
  intro wh pins s σ H Q I h
  refine isTrue_or (thn (ha pins s σ H Q I h) fun c s1 e => ?_)
  cases c with
  | false => exact isTrue_or_nil e
  | true => exact e
theorem pw_and (ha : PT X a tA) (hb : PW X (.BoolOp .And (b :: rest) pos) tB') : PW X (.BoolOp .And (a :: b :: rest) pos) (tAnd tA tB') := by
  intro wh pins s σ H Q I h
  refine isTrue_and (thn (ha pins s σ H _ I h) fun c s1 ⟨H1, I1, q1⟩ => ?_)
  cases c with
  | true => exact hb wh pins s1 σ H1 Q I1 q1
  | false => exact ⟨H1, I1, q1⟩
theorem pw_or (ha : PT X a tA) (hb : PW X (.BoolOp .Or (b :: rest) pos) tB') : PW X (.BoolOp .Or (a :: b :: rest) pos) (tOr tA tB') := by
  intro wh pins s σ H Q I h
  refine isTrue_or (thn (ha pins s σ H _ I h) fun c s1 ⟨H1, I1, q1⟩ => ?_)
  cases c with
  | true => exact ⟨H1, I1, q1⟩
  | false => exact hb wh pins s1 σ H1 Q I1 q1
theorem pt_not (ha : PT X a tA) : PT X (.UnaryOp .Not a pos) (tNot tA) := by
  intro pins s σ H Q I h
  exact isTrue_not (ha pins s σ H (fun c H1 => Q (!c) H1) I h)
/-- .. as values (bools) -/
def tAndV (ta tb : TE) : TE := fun σ H Q => ta σ H fun x H1 => ∃ c, x = .bl c ∧ if c = true then tb σ H1 Q else Q (.bl false) H1
def tOrV (ta tb : TE) : TE := fun σ H Q => ta σ H fun x H1 => ∃ c, x = .bl c ∧ if c = true then Q (.bl true) H1 else tb σ H1 Q
def tNotV (ta : TE) : TE := fun σ H Q => ta σ H fun x H1 => ∃ c, x = .bl c ∧ Q (.bl (!c)) H1
theorem pe_one {op} {t : TE} (h : PE X a t) : PE X (.BoolOp op [a] pos) t := fun pins s σ H Q I hw => BoolOp_one (h pins s σ H Q I hw)
theorem pe_and (ha : PE X a ta) (hb : PE X (.BoolOp .And (b :: rest) pos) tb) : PE X (.BoolOp .And (a :: b :: rest) pos) (tAndV ta tb) := by
  intro pins s σ H Q I h
  refine BoolOp_and (thn (ha pins s σ H _ I h) fun v s1 ⟨x, H1, I1, r1, q1⟩ => ?_)
  obtain ⟨c, rfl, q1⟩ := q1
  cases r1
  refine wpAny_truthy_bool ?_
  cases c with
  | true => exact hb pins s1 σ H1 Q I1 q1
  | false => exact ⟨.bl false, H1, I1, rfl, q1⟩
theorem pe_or (ha : PE X a ta) (hb : PE X (.BoolOp .Or (b :: rest) pos) tb) : PE X (.BoolOp .Or (a :: b :: rest) pos) (tOrV ta tb) := by
  intro pins s σ H Q I h
  refine BoolOp_or (thn (ha pins s σ H _ I h) fun v s1 ⟨x, H1, I1, r1, q1⟩ => ?_)
  obtain ⟨c, rfl, q1⟩ := q1
  cases r1
  refine wpAny_truthy_bool ?_
  cases c with
  | false => exact hb pins s1 σ H1 Q I1 q1
  | true => exact ⟨.bl true, H1, I1, rfl, q1⟩
/-- a if t else b -/
def tIf (t : TT) (ta tb : TE) : TE := fun σ H Q => t σ H fun c H1 => if c = true then ta σ H1 Q else tb σ H1 Q
theorem pe_ifExp {c : Expr} (hc : PT X c tA) (ha : PE X a ta) (hb : PE X b tb) : PE X (.IfExp c a b pos) (tIf tA ta tb) := by
  intro pins s σ H Q I h
  refine wpAny_IfExp (thn (hc pins s σ H _ I h) fun d s1 ⟨H1, I1, q1⟩ => ?_)
  cases d with
  | true => exact ha pins s1 σ H1 Q I1 q1
  | false => exact hb pins s1 σ H1 Q I1 q1
end
end L2

namespace L2
open PySem PySem.Spec PyProof.Rows

/-! ### a list, a tuple that is read: tracked, frozen, or an object of the module -/
def SqL (K : PySem.W.Frag) (H : Hp) (a : Addr) (xs : List V) : Prop :=
  Rd H a (.lst xs) ∨
    ∃ (o : Obj) (its : Array Value) (n : Nat), K.lookup a = some o ∧ o.cls = .type "list" ∧ o.dict = none ∧ o.data = .seq its n ∧ its.size ≤ sizeLine ∧ Vals xs its.toList
def SqT (K : PySem.W.Frag) (H : Hp) (a : Addr) (xs : List V) : Prop :=
  Rd H a (.tup xs) ∨
    ∃ (o : Obj) (its : Array Value) (n : Nat), K.lookup a = some o ∧ o.cls = .type "tuple" ∧ o.data = .seq its n ∧ its.size ≤ sizeLine ∧ Vals xs its.toList
def absV : Value → Option V
  | .none => some .non
  | .bool b => some (.bl b)
  | .int i _ => some (.int i)
  | .str x _ => some (.str x)
  | .bytes b _ => some (.byt b)
  | .float b _ => some (.flt b)
  | .ref a => some (.ref a)
  | .type n => some (.ty n)
  | _ => none
theorem RelV.abs {x : V} {u : Value} (r : RelV x u) : absV u = some x := by
  cases x with
  | non => cases r; rfl
  | bl _ => cases r; rfl
  | int _ => obtain ⟨t, rfl⟩ := r; rfl
  | str _ => obtain ⟨t, rfl⟩ := r; rfl
  | byt _ => obtain ⟨t, rfl⟩ := r; rfl
  | flt _ => obtain ⟨t, rfl⟩ := r; rfl
  | ref _ => cases r; rfl
  | ty _ => cases r; rfl
theorem RelV.inj {x y : V} {u : Value} (r : RelV x u) (q : RelV y u) : x = y := Option.some.inj (r.abs.symm.trans q.abs)
theorem Vals.inj : ∀ {xs ys : List V} {us : List Value}, Vals xs us → Vals ys us → xs = ys
  | _, _, _, .nil, .nil => rfl
  | _, _, _, .cons r t, .cons r' t' => by rw [r.inj r', Vals.inj t t']
section
variable {X : Cx} {pins : List (Addr × Obj)} {σ : St} {H : Hp} {s : Shared} {a : Addr} {xs ys : List V}
theorem SqL.of {K : PySem.W.Frag} (h : H a = some (.lst xs)) : SqL K H a xs := .inl (.inl h)
theorem SqT.of {K : PySem.W.Frag} (h : H a = some (.tup xs)) : SqT K H a xs := .inl (.inl h)
theorem Inv.list (I : Inv X pins σ H s) (h : SqL X.K H a xs) : ∃ its : List Value, Vals xs its ∧ PlainL s.heap a its.toArray ∧ xs.length ≤ sizeLine := by
  rcases h with h | ⟨o, its, n, hk, hc, hd, hs, hz, r⟩
  · obtain ⟨z, its, n, r, e⟩ := h.ok I.hok
    exact ⟨its, r, ⟨_, n, e, rfl, rfl, rfl⟩, z⟩
  · refine ⟨its.toList, r, ⟨o, n, I.kIn a o hk, hc, hd, by simpa using hs⟩, ?_⟩
    have e := r.length
    simp only [Array.length_toList] at e
    omega
theorem Inv.tuple (I : Inv X pins σ H s) (h : SqT X.K H a xs) : ∃ its : List Value, Vals xs its ∧ IsTup s.heap a its.toArray ∧ xs.length ≤ sizeLine := by
  rcases h with h | ⟨o, its, n, hk, hc, hs, hz, r⟩
  · obtain ⟨z, its, r, p⟩ := h.ok I.hok
    exact ⟨its, r, p, z⟩
  · refine ⟨its.toList, r, ⟨o, I.kIn a o hk, hc, n, by simpa using hs⟩, ?_⟩
    have e := r.length
    simp only [Array.length_toList] at e
    omega
theorem Inv.list_inj (I : Inv X pins σ H s) (h : SqL X.K H a xs) (h' : SqL X.K H a ys) : xs = ys := by
  obtain ⟨its, r, ⟨o, n, e, _, _, d⟩, _⟩ := I.list h
  obtain ⟨its', r', ⟨o', n', e', _, _, d'⟩, _⟩ := I.list h'
  rw [e] at e'; cases e'
  rw [d] at d'
  injection d' with d1 _
  have : its = its' := by simpa using congrArg Array.toList d1
  subst this
  exact r.inj r'
end

/-! ### another wish about exceptions -/
abbrev Cx.wish (X : Cx) (E : Value → Shared → Prop) : Cx := { X with xe := E }
/-- no exception leaves -/
abbrev Cx.nox (X : Cx) : Cx := X.wish fun _ _ => False
theorem Cx.Ok.wish {X : Cx} (ok : X.Ok) (E : Value → Shared → Prop) : (X.wish E).Ok :=
  ⟨ok.mod, ok.kind, ok.glob, ok.blt, ok.above, ok.inj, ok.has, ok.cab, ok.hd, ok.frames, ok.stk, ok.exf, ok.bs, ok.bsz, ok.noex, ok.exfs, ok.funs, ok.frf⟩
theorem Cx.Ok.unwish {X : Cx} {E : Value → Shared → Prop} (ok : (X.wish E).Ok) : X.Ok :=
  ⟨ok.mod, ok.kind, ok.glob, ok.blt, ok.above, ok.inj, ok.has, ok.cab, ok.hd, ok.frames, ok.stk, ok.exf, ok.bs, ok.bsz, ok.noex, ok.exfs, ok.funs, ok.frf⟩
section
variable {X : Cx} {pins : List (Addr × Obj)} {σ : St} {H : Hp} {s : Shared} {E : Value → Shared → Prop}
theorem Inv.wish (I : Inv X pins σ H s) (E : Value → Shared → Prop) : Inv (X.wish E) pins σ H s := ⟨I.ok.wish E, I.os, I.bare, I.base, I.loc, I.cell, I.free, I.freeC, I.pin, I.hok, I.len⟩
theorem Inv.unwish (I : Inv (X.wish E) pins σ H s) : Inv X pins σ H s := ⟨I.ok.unwish, I.os, I.bare, I.base, I.loc, I.cell, I.free, I.freeC, I.pin, I.hok, I.len⟩
theorem SP.unwish {D : Ends} {f : Flow} {s' : Shared} (h : SP (X.wish E) pins D f s') : SP X pins D f s' := by
  cases f with
  | next => obtain ⟨σ', H', I, q⟩ := h; exact ⟨σ', H', I.unwish, q⟩
  | brk => obtain ⟨σ', H', I, q⟩ := h; exact ⟨σ', H', I.unwish, q⟩
  | cont => obtain ⟨σ', H', I, q⟩ := h; exact ⟨σ', H', I.unwish, q⟩
  | ret u => obtain ⟨v, σ', H', I, r, q⟩ := h; exact ⟨v, σ', H', I.unwish, r, q⟩
theorem PSs.nox {st : List Stmt} {t : TS} (h : PSs X.nox st t) : PSs X st t := fun pins s σ H D I hw =>
  wpAny_mono (h pins s σ H D (I.wish _) hw) (fun _ _ q => q.unwish) fun _ _ z => False.elim z
end

/-! ### blocks and small statements -/
section
variable {X : Cx} {st : Stmt} {rest : List Stmt} {t u : TS} {e : Expr} {te : TE} {pos : Pos}
def tNext : TS := fun D σ H => D.nx σ H
def tSeq (t u : TS) : TS := fun D σ H => t { D with nx := u D } σ H
theorem pss_nil : PSs X [] tNext := fun _ _ σ H _ I h => wpAny_execs_nil ⟨σ, H, I, h⟩
theorem pss_cons (h1 : PS X st t) (h2 : PSs X rest u) : PSs X (st :: rest) (tSeq t u) := by
  intro pins s σ H D I h
  refine wpAny_execs_cons (thn (h1 pins s σ H { D with nx := u D } I h) fun f s1 q => ?_)
  cases f with
  | next =>
    obtain ⟨σ', H', I', q⟩ := q
    exact h2 pins s1 σ' H' D I' q
  | ret v => exact q
  | brk => exact q
  | cont => exact q
theorem pss_one (h1 : PS X st t) : PSs X [st] t := by
  intro pins s σ H D I h
  refine wpAny_execs_cons (thn (h1 pins s σ H D I h) fun f s1 q => ?_)
  cases f with
  | next => exact wpAny_execs_nil q
  | ret v => exact q
  | brk => exact q
  | cont => exact q
def tBreak : TS := fun D σ H => D.bk σ H
def tCont : TS := fun D σ H => D.ct σ H
/-- in a def's body nothing is shown -/
theorem Inv.quiet {pins : List (Addr × Obj)} {σ : St} {H : Hp} {s : Shared} (I : Inv X pins σ H s) : interactive X.env = false := by simp [interactive, I.ok.kind]
/-- an expression whose value is dropped -/
def tDrop (te : TE) : TS := fun D σ H => te σ H fun _ H1 => D.nx σ H1
theorem ps_expr (he : PE X e te) (hs : swapsWith e none pos.line X.env = pure false := by rfl) : PS X (.Expr e pos) (tDrop te) := by
  intro pins s σ H D I h
  exact wpAny_Expr_any (thn (he pins s σ H _ I h) fun v s1 ⟨x, H1, I1, r1, q1⟩ => ⟨σ, H1, I1, q1⟩) I.quiet hs
def tRet (te : TE) : TS := fun D σ H => te σ H D.rt
theorem ps_ret (he : PE X e te) : PS X (.Return (some e) pos) (tRet te) := by
  intro pins s σ H D I h
  exact wpAny_Return_some (thn (he pins s σ H _ I h) fun v s1 ⟨x, H1, I1, r1, q1⟩ => ⟨x, σ, H1, I1, r1, q1⟩)
def tRetN : TS := fun D _ H => D.rt .non H
theorem ps_retN : PS X (.Return none pos) tRetN := fun _ _ σ H _ I h => wpAny_Return_none ⟨.non, σ, H, I, rfl, h⟩
def tIfS (c : TT) (t u : TS) : TS := fun D σ H => c σ H fun b H1 => if b = true then t D σ H1 else u D σ H1
theorem ps_if {c : Expr} {a b : List Stmt} {tc : TT} (hc : PT X c tc) (ha : PSs X a t) (hb : PSs X b u) : PS X (.If c a b pos) (tIfS tc t u) := by
  intro pins s σ H D I h
  refine wpAny_If (thn (hc pins s σ H _ I h) fun d s1 ⟨H1, I1, q1⟩ => ?_)
  cases d with
  | true => exact ha pins s1 σ H1 D I1 q1
  | false => exact hb pins s1 σ H1 D I1 q1
/-- code that the proof never comes to -/
def tNever : TS := fun _ _ _ => False
theorem ps_never : PS X st tNever := fun _ _ _ _ _ _ h => h.elim
end

/-! ### targets -/
abbrev TG := V → St → Hp → (St → Hp → Prop) → Prop
abbrev TGs := List V → St → Hp → (St → Hp → Prop) → Prop
def PG (X : Cx) (target : Expr) (t : TG) : Prop :=
  ∀ (pins : List (Addr × Obj)) (s : Shared) (σ : St) (H : Hp) (v : V) (u : Value) (Q : St → Hp → Prop), Inv X pins σ H s → RelV v u → t v σ H Q →
    wpAny (model X.prog X.w) X.A (assign target X.env u) (fun _ s' => ∃ σ' H', Inv X pins σ' H' s' ∧ Q σ' H') X.xe s
/-- several targets, one after another -/
def PGs (X : Cx) (ts : List Expr) (t : TGs) : Prop :=
  ∀ (pins : List (Addr × Obj)) (s : Shared) (σ : St) (H : Hp) (vs : List V) (us : List Value) (Q : St → Hp → Prop), Inv X pins σ H s → Vals vs us → t vs σ H Q →
    wpAny (model X.prog X.w) X.A (assignInOrder ((assignEach ts X.env).map (·.2)) us) (fun _ s' => ∃ σ' H', Inv X pins σ' H' s' ∧ Q σ' H') X.xe s
/-- o[i] = v, by values -/
abbrev TSet := V → V → V → Hp → (Hp → Prop) → Prop
def PSet (X : Cx) (t : TSet) : Prop :=
  ∀ (pins : List (Addr × Obj)) (s : Shared) (σ : St) (H : Hp) (o i v : V) (ov iv u : Value) (Q : Hp → Prop), Inv X pins σ H s → RelV o ov → RelV i iv → RelV v u → t o i v H Q →
    wpAny (model X.prog X.w) X.A (setItem ov iv u) (fun _ s' => ∃ H', Inv X pins σ H' s' ∧ Q H') X.xe s
/-- a op= b, by values -/
abbrev TIp := V → V → Hp → VK → Prop
def PIp (X : Cx) (op : Operator) (t : TIp) : Prop :=
  ∀ (pins : List (Addr × Obj)) (s : Shared) (σ : St) (H : Hp) (x y : V) (v u : Value) (Q : VK), Inv X pins σ H s → RelV x v → RelV y u → t x y H Q →
    wpAny (model X.prog X.w) X.A (inplaceOp op v u) (EP X pins σ Q) X.xe s
section
variable {X : Cx} {pos : Pos}
def gName (i : Nat) : TG := fun v σ H Q => Q (σ.set i (some v)) H
theorem pg_name {i : Nat} {x : Str} (hN : X.N.Nodup) (hi : X.N[i]? = some x) (hx : Loc X.env.scope x) (hf : X.fn x = true ∨ X.env.scope.names.lookup x = some .local := by first | exact .inl rfl | exact .inr rfl | assumption) : PG X (.Name x pos) (gName i) := by
  intro pins s σ H v u Q I r h
  exact wpAny_assign_Name (store_ok I hN hi hx r (fun s' I' => ⟨_, H, I', h⟩) hf)
def gNil : TGs := fun vs σ H Q => vs = [] ∧ Q σ H
def gCons (t : TG) (u : TGs) : TGs := fun vs σ H Q => ∃ v r, vs = v :: r ∧ t v σ H fun σ' H' => u r σ' H' Q
/-- (a, b, ..) = a tuple of that length -/
def gTup (K : PySem.W.Frag) (n : Nat) (t : TGs) : TG := fun v σ H Q => ∃ a xs, v = .ref a ∧ SqT K H a xs ∧ xs.length = n ∧ t xs σ H Q
/-- o[i] = .. -/
def gSub (to ti : TE) (t : TSet) : TG := fun v σ H Q => to σ H fun o H1 => ti σ H1 fun i H2 => t o i v H2 fun H3 => Q σ H3
/-- target = value -/
def tAsg (te : TE) (g : TG) : TS := fun D σ H => te σ H fun x H1 => g x σ H1 D.nx
/-- name = value -/
theorem ps_set {i : Nat} {x : Str} {e : Expr} {te : TE} {pos' : Pos} (hN : X.N.Nodup) (hi : X.N[i]? = some x) (hx : Loc X.env.scope x) (he : PE X e te) (hs : swapsWith e (some (.Name x pos')) pos.line X.env = pure false := by rfl) (hf : X.fn x = true ∨ X.env.scope.names.lookup x = some .local := by first | exact .inl rfl | exact .inr rfl | assumption) :
    PS X (.Assign [.Name x pos'] e pos) (tAsg te (gName i)) := by
  intro pins s σ H D I h
  refine wpAny_Assign_Name (thn (he pins s σ H _ I h) fun v s1 ⟨y, H1, I1, r1, q1⟩ => ?_) hs
  exact store_ok I1 hN hi hx r1 (fun s2 I2 => ⟨_, H1, I2, q1⟩) hf
/-- a, b = x, y with plain local names: stored from the right; the pair itself is not tracked (the opening rows as in PyProof/Rows/TupAssign.lean:23) -/
def tPar (i j : Nat) (ta : TA) : TS := fun D σ H => ta σ H fun vs H1 => ∃ v w, vs = [v, w] ∧ D.nx ((σ.set i (some v)).set j (some w)) H1
/-- name op= e -/
def tAug (i : Nat) (te : TE) (ti : TIp) : TS := fun D σ H => ∃ x, σ[i]? = some (some x) ∧ te σ H fun y H1 => ti x y H1 fun z H2 => D.nx (σ.set i (some z)) H2
/-- o[i] op= e -/
def tAugS (to ti te : TE) (tget : V → V → Hp → VK → Prop) (tip : TIp) (tset : TSet) : TS := fun D σ H => to σ H fun o H1 => ti σ H1 fun i H2 => tget o i H2 fun x H3 => te σ H3 fun y H4 => tip x y H4 fun z H5 => tset o i z H5 fun H6 => D.nx σ H6
/-- o[i], by values -/
def PGet (X : Cx) (t : V → V → Hp → VK → Prop) : Prop :=
  ∀ (pins : List (Addr × Obj)) (s : Shared) (σ : St) (H : Hp) (o i : V) (ov iv : Value) (Q : VK), Inv X pins σ H s → RelV o ov → RelV i iv → t o i H Q →
    wpAny (model X.prog X.w) X.A (getItem ov iv) (EP X pins σ Q) X.xe s
/-- ints -/
def ipI (f : Int → Int → Int) : TIp := fun x y H Q => ∃ i j, x = .int i ∧ y = .int j ∧ Q (.int (f i j)) H
end

/-! ### while -/
section
variable {X : Cx} {pos : Pos}
/-- the invariant W with its measure -/
def tWhile (c : TT) (tb : TS) : TS := fun D σ H => ∃ W : Nat → St → Hp → Prop, (∃ m, W m σ H) ∧ ∀ m σ H, W m σ H →
  c σ H fun b H1 => if b = true then ∃ N : St → Hp → Prop, (∀ σ' H', N σ' H' → ∃ m', m' < m ∧ W m' σ' H') ∧ tb { D with nx := N, ct := N, bk := D.nx } σ H1 else D.nx σ H1
theorem ps_while {c : Expr} {body : List Stmt} {tc : TT} {tb : TS} (hp : PassesOwn (model X.prog X.w) X.A X.env X.xe) (hc : PT X c tc) (hb : PSs X body tb) : PS X (.While c body [] pos) (tWhile tc tb) := by
  intro pins s σ H D I h
  obtain ⟨W, ⟨m0, w0⟩, turn⟩ := h
  refine wpAny_While (codeAny_whileLoop (fun n s' => ∃ σ' H', Inv X pins σ' H' s' ∧ W n σ' H') ?_ m0 ⟨σ, H, I, w0⟩)
  rintro n s1 ⟨σ1, H1, I1, w1⟩
  refine wpAny_passesOwn hp (thn (hc pins s1 σ1 H1 _ I1 (turn n σ1 H1 w1)) fun b s2 ⟨H2, I2, q2⟩ => ?_)
  cases b with
  | true =>
    obtain ⟨N, hN, q2⟩ := q2
    rw [if_pos rfl]
    refine wpAny_passesOwn hp (thn (hb pins s2 σ1 H2 _ I2 q2) fun f s3 q3 => ?_)
    cases f with
    | next =>
      obtain ⟨σ3, H3, I3, n3⟩ := q3
      obtain ⟨m', hm, w3⟩ := hN σ3 H3 n3
      exact ⟨m', hm, σ3, H3, I3, w3⟩
    | cont =>
      obtain ⟨σ3, H3, I3, n3⟩ := q3
      obtain ⟨m', hm, w3⟩ := hN σ3 H3 n3
      exact ⟨m', hm, σ3, H3, I3, w3⟩
    | brk => exact q3
    | ret v => exact q3
  | false =>
    rw [if_neg Bool.false_ne_true]
    exact wpAny_execs_nil ⟨σ1, H2, I2, q2⟩
end

/-! ### what a loop or a comprehension walks -/
/-- at turn i: it yields x (the heap may grow), or it stops -/
structure It where
  go : Nat → Hp → Prop
  yld : Nat → Hp → V → Hp → Prop
  stop : Nat → Hp → Prop
/-- the iterator's own objects may turn: they are not the frame's, not pinned, younger than the entry (or a comprehension's own) -/
def FpOk (X : Cx) (pins : List (Addr × Obj)) (H : Hp) (b : Addr) : Prop :=
  H b = none ∧ b ≠ X.env.locals ∧ b ∉ X.fs ∧ (b ∈ X.ex ∨ X.s_0.heap.objs.size ≤ b) ∧ (∀ x c, X.env.cells.lookup x = some c → c ≠ b) ∧ ∀ p ∈ X.pn ++ pins, p.1 ≠ b
theorem Inv.fpOk {X : Cx} {pins : List (Addr × Obj)} {σ : St} {H H' : Hp} {s : Shared} {b : Addr} (I : Inv X pins σ H s) (hb : s.heap.objs.size ≤ b) (hn : H' b = none) : FpOk X pins H' b := by
  refine ⟨hn, Nat.ne_of_gt (Nat.lt_of_lt_of_le I.lt hb), I.nofs hb, .inr (Nat.le_trans I.sz hb), fun x c e z => ?_, fun p hp z => ?_⟩
  · obtain ⟨v, q⟩ := I.cell x c e
    exact absurd (Nat.lt_of_lt_of_le q.lt (by rw [z]; exact hb)) (Nat.lt_irrefl _)
  · exact absurd (Nat.lt_of_lt_of_le (Heap.lt_size (I.pin p hp).1) (by rw [z]; exact hb)) (Nat.lt_irrefl _)
structure Turn (P : Program) (w : World) (K : PySem.W.Frag) (tg : Expr) (J : It) (fp : List Addr) (it : Addr) (tn : Nat → Heap → Prop) : Prop where
  mem : it ∈ fp
  obj : ∀ i h, tn i h → ∀ b ∈ fp, ∃ o, h.get? b = some o ∧ ∀ v, o.data ≠ .cell v
  keep : ∀ i h h', tn i h → (∀ b ∈ fp, ∀ o, h.get? b = some o → h'.get? b = some o) → tn i h'
  item : ∀ (X : Cx), X.prog = P → X.w = w → X.K = K → X.calm = true → ∀ (i : Nat) (pins : List (Addr × Obj)) (s : Shared) (σ : St) (H : Hp) (E : Value → Shared → Prop), Inv X pins σ H s → (∀ b ∈ fp, FpOk X pins H b) → tn i s.heap → J.go i H →
    wpAny (model P w) X.A (pyNext (.ref it)) (fun r s1 => ∃ u, r = some u ∧
      wpAny (model P w) X.A (letOwnedTupleGo tg (.ref it) u) (fun _ s2 => ∃ x H', Inv X pins σ H' s2 ∧ RelV x u ∧ J.yld i H x H' ∧ tn (i + 1) s2.heap ∧ ∀ b ∈ fp, H' b = none) E s1) E s
  done : ∀ (X : Cx), X.prog = P → X.w = w → X.K = K → X.calm = true → ∀ (i : Nat) (pins : List (Addr × Obj)) (s : Shared) (σ : St) (H : Hp) (E : Value → Shared → Prop), Inv X pins σ H s → (∀ b ∈ fp, FpOk X pins H b) → tn i s.heap → J.stop i H →
    wpAny (model P w) X.A (pyNext (.ref it)) (fun r s1 => r = none ∧ Inv X pins σ H s1) E s
  self : ∀ (A : Around) (i : Nat) (s : Shared) (Q : Value → Shared → Prop) (E : Value → Shared → Prop), tn i s.heap → Q (.ref it) s → wpAny (model P w) A (pyIter (.ref it)) Q E s
abbrev TI := St → Hp → (It → Hp → Prop) → Prop
/-- an iterator has come -/
def PIE (X : Cx) (pins : List (Addr × Obj)) (σ : St) (tg : Expr) (R : It → Hp → Prop) (itv : Value) (s2 : Shared) : Prop :=
  ∃ (it : Addr) (fp : List Addr) (tn : Nat → Heap → Prop) (J : It) (H' : Hp), itv = .ref it ∧ Inv X pins σ H' s2 ∧ Turn X.prog X.w X.K tg J fp it tn ∧ tn 0 s2.heap ∧ (∀ b ∈ fp, FpOk X pins H' b) ∧ R J H'
def PI (X : Cx) (tg iter : Expr) (wi : TI) : Prop :=
  ∀ (pins : List (Addr × Obj)) (s : Shared) (σ : St) (H : Hp) (R : It → Hp → Prop), Inv X pins σ H s → wi σ H R →
    wpAny (model X.prog X.w) X.A (eval iter X.env) (fun v s1 => wpAny (model X.prog X.w) X.A (pyIter v) (PIE X pins σ tg R) X.xe s1) X.xe s

/-- the step ahead of the store is nothing for an iterator that keeps no tuple -/
theorem go_of {M : Model} {A : Around} {E : Value → Shared → Prop} {s : Shared} {tg : Expr} {it : Addr} {u : Value} {o : Obj} {n : String} {vs : Array Value} {Q : Unit → Shared → Prop} (ho : s.heap.get? it = some o) (hc : o.cls = .type n) (hd : o.data = .fields vs)
    (hn : ["enumerate", "zip", "dict_itemiterator", "dict_reverseitemiterator", "odict_iterator", "itertools.zip_longest", "itertools.pairwise"].contains n = false) (hQ : Q () s) : wpAny M A (letOwnedTupleGo tg (.ref it) u) Q E s := by
  unfold letOwnedTupleGo
  cases tg <;> first
    | exact wpAny_pure hQ
    | (cases u <;> first
        | exact wpAny_pure hQ
        | (refine wpAny_bind (wpAny_load ho ?_)
           rw [hc, hd]
           show wpAny M A (if (["enumerate", "zip", "dict_itemiterator", "dict_reverseitemiterator", "odict_iterator", "itertools.zip_longest", "itertools.pairwise"].contains n && vs[0]? == some (rawInt _)) = true then _ else _) Q E s
           rw [if_neg (by intro h; rw [hn, Bool.false_and] at h; cases h)]
           exact wpAny_pure hQ))

/-- the list at a, as it stands at each turn (a loop may append to it) -/
def Itl (K : PySem.W.Frag) (a : Addr) : It :=
  ⟨fun i H => ∃ xs x, SqL K H a xs ∧ xs[i]? = some x, fun i H x H' => H' = H ∧ ∀ xs, SqL K H a xs → xs[i]? = some x, fun i H => ∃ xs, SqL K H a xs ∧ xs.length ≤ i⟩
def Itt (K : PySem.W.Frag) (a : Addr) : It :=
  ⟨fun i H => ∃ xs x, SqT K H a xs ∧ xs[i]? = some x, fun i H x H' => H' = H ∧ ∀ xs, SqT K H a xs → xs[i]? = some x, fun i H => ∃ xs, SqT K H a xs ∧ xs.length ≤ i⟩
/-- lo, lo + 1, .. (n of them) -/
def Itr (lo : Int) (n : Nat) : It := ⟨fun i _ => i < n, fun i H x H' => H' = H ∧ x = .int (lo + i), fun i _ => n ≤ i⟩
theorem turn_list {P : Program} {w : World} {K : PySem.W.Frag} {tg : Expr} (a it : Addr) : Turn P w K tg (Itl K a) [it] it (fun i h => h.IsListIter it a i) where
  mem := by simp
  obj := fun i h st b hb => by
    have e : b = it := by simpa using hb
    subst e
    obtain ⟨o, e, c, d⟩ := st
    exact ⟨o, e, fun v z => by rw [d] at z; cases z⟩
  keep := fun i h h' st k => st.at fun o e => k it (by simp) o e
  item := by
    intro X hP hw hK hc i pins s σ H E I hf st hg
    subst hP hw hK
    obtain ⟨xs, x, hq, hx⟩ := hg
    obtain ⟨its, rv, p, hz⟩ := I.list hq
    obtain ⟨u, hu, ru⟩ := rv.get hx
    obtain ⟨f0, f1, f2, f3, f4, f5⟩ := hf it (by simp)
    refine wpAny_pyNext_list_item st p.isList (x := u) (by simpa using hu) fun h' st' sb => ?_
    have I1 : Inv X pins σ H { s with heap := h' } := I.turned (t' := s.toks) (fun b o hb e => (sb.2 b hb).trans e) f0 f1 f3 f4 f5
    obtain ⟨o, e, c, d⟩ := id st'
    exact ⟨u, rfl, go_of (s := { s with heap := h' }) e c d (by decide) ⟨x, H, I1, ru, ⟨rfl, fun ys hy => by rw [I.list_inj hy hq]; exact hx⟩, st', fun b hb => (hf b hb).1⟩⟩
  done := by
    intro X hP hw hK hc i pins s σ H E I hf st hg
    subst hP hw hK
    obtain ⟨xs, hq, hx⟩ := hg
    obtain ⟨its, rv, p, hz⟩ := I.list hq
    obtain ⟨f0, f1, f2, f3, f4, f5⟩ := hf it (by simp)
    have hl := rv.length
    exact wpAny_pyNext_list_end (I.ok.hd hc) st p.isList (by simp; omega) fun h' eb => ⟨rfl, I.turned (t' := s.toks) (fun b o hb e => eb b o hb e) f0 f1 f3 f4 f5⟩
  self := fun _ _ _ _ _ st h => wpAny_pyIter_listiter st h
theorem turn_range {P : Program} {w : World} {K : PySem.W.Frag} {tg : Expr} (it : Addr) (lo : Int) (n : Nat) : Turn P w K tg (Itr lo n) [it] it (fun i h => IsRangeIter h it (lo + (i : Nat) * 1) ((n : Int) - (i : Nat)) 1) where
  mem := by simp
  obj := fun i h st b hb => by
    have e : b = it := by simpa using hb
    subst e
    exact ⟨_, st, fun v z => by
      have z' : Data.fields _ = Data.cell v := z
      cases z'⟩
  keep := fun i h h' st k => k it (by simp) _ st
  item := by
    intro X hP hw hK hc i pins s σ H E I hf st hg
    subst hP hw hK
    obtain ⟨f0, f1, f2, f3, f4, f5⟩ := hf it (by simp)
    have W := Walks.range (prog := X.prog) (w := X.w) (I.ok.hd hc) it lo 1 n
    refine W.item i s _ _ hg st fun v h' tk hv st' kk => ?_
    obtain ⟨t, rfl⟩ := hv
    have I1 : Inv X pins σ H { s with heap := h', toks := tk } := I.turned (fun b o hb e => kk b o (by simpa using hb) e) f0 f1 f3 f4 f5
    refine ⟨_, rfl, go_of (s := { s with heap := h', toks := tk }) (n := "range_iterator") st' rfl rfl (by decide) ⟨.int (lo + i), H, I1, ⟨t, ?_⟩, ⟨rfl, rfl⟩, st', fun b hb => (hf b hb).1⟩⟩
    rw [Int.mul_one]
  done := by
    intro X hP hw hK hc i pins s σ H E I hf st hg
    subst hP hw hK
    obtain ⟨f0, f1, f2, f3, f4, f5⟩ := hf it (by simp)
    exact wpAny_pyNext_range_end (I.ok.hd hc) st (by have : n ≤ i := hg; omega) fun h' eb => ⟨rfl, I.turned (t' := s.toks) (fun b o hb e => eb b o hb e) f0 f1 f3 f4 f5⟩
  self := fun _ _ _ _ _ st h => wpAny_pyIter_rangeiter st h
end L2

namespace L2
open PySem PySem.Spec PyProof.Rows
section
variable {X : Cx} {tg : Expr}
def iList (K : PySem.W.Frag) (tl : TE) : TI := fun σ H R => tl σ H fun x H1 => ∃ a, x = .ref a ∧ (∃ xs, SqL K H1 a xs) ∧ R (Itl K a) H1
def iTup (K : PySem.W.Frag) (tl : TE) : TI := fun σ H R => tl σ H fun x H1 => ∃ a, x = .ref a ∧ (∃ xs, SqT K H1 a xs) ∧ R (Itt K a) H1
theorem pi_list {l : Expr} {tl : TE} (hl : PE X l tl) : PI X tg l (iList X.K tl) := by
  intro pins s σ H R I h
  refine thn (hl pins s σ H _ I h) fun v s1 ⟨x, H1, I1, r1, q1⟩ => ?_
  obtain ⟨a, e, ⟨xs, hq⟩, q⟩ := q1
  subst e
  cases r1
  obtain ⟨its, rv, p, hz⟩ := I1.list hq
  refine wpAny_pyIter_list p.isList ?_
  refine ⟨s1.heap.objs.size, [s1.heap.objs.size], _, _, H1, rfl, I1.kept (t' := s1.toks) fun b o e => Heap.get?_push_of_some _ e, turn_list a _, ⟨_, Heap.get?_push_size _ rfl, rfl, rfl⟩, fun b hb => ?_, q⟩
  have e : b = s1.heap.objs.size := by simpa using hb
  subst e
  exact I1.fpOk (Nat.le_refl _) (I1.hok.fresh (Nat.le_refl _))
/-- a range object just made, walked -/
theorem range_it {pins : List (Addr × Obj)} {σ : St} {H : Hp} {s : Shared} {R : It → Hp → Prop} {E : Value → Shared → Prop} {lo hi : Int} {t u v : Tok} {tk : Nat} (I : Inv X pins σ H s) (h1 : -(2 ^ 62) ≤ lo) (h2 : lo < 2 ^ 62) (h3 : -(2 ^ 62) ≤ hi) (h4 : hi < 2 ^ 62)
    (q : R (Itr lo (hi - lo).toNat) H) : wpAny (model X.prog X.w) X.A (pyIter (.ref s.heap.objs.size)) (PIE X pins σ tg R) E { s with heap := s.heap.push { cls := .type "range", data := .fields #[.int lo t, .int hi u, .int 1 v] }, toks := tk } := by
  refine wpAny_pyIter_range (IsRange.new ..) (small_one h1 h2 h3 h4) ?_
  have I1 : Inv X pins σ H { s with heap := s.heap.push { cls := .type "range", data := .fields #[.int lo t, .int hi u, .int 1 v] }, toks := tk } := I.kept fun b o e => Heap.get?_push_of_some _ e
  refine ⟨(s.heap.push { cls := .type "range", data := .fields #[.int lo t, .int hi u, .int 1 v] }).objs.size, [(s.heap.push { cls := .type "range", data := .fields #[.int lo t, .int hi u, .int 1 v] }).objs.size], _, _, H, rfl,
    I1.kept (t' := tk) fun b o e => Heap.get?_push_of_some _ e, turn_range _ lo (hi - lo).toNat, ?_, fun b hb => ?_, q⟩
  · have e1 : lo + ((0 : Nat) : Int) * 1 = lo := by simp
    have e2 : (((hi - lo).toNat : Nat) : Int) - ((0 : Nat) : Int) = Builtin.Range.rangeSize lo hi 1 := by rw [rangeSize_one]; split <;> omega
    show IsRangeIter _ _ (lo + ((0 : Nat) : Int) * 1) ((((hi - lo).toNat : Nat) : Int) - ((0 : Nat) : Int)) 1
    rw [e1, e2]
    exact Heap.get?_push_size _ rfl
  · have e : b = (s.heap.push { cls := .type "range", data := .fields #[.int lo t, .int hi u, .int 1 v] }).objs.size := by simpa using hb
    subst e
    exact I1.fpOk (Nat.le_refl _) (I1.hok.fresh (Nat.le_refl _))
def iRng1 (ta : TA) : TI := fun σ H R => ta σ H fun vs H1 => ∃ j : Int, vs = [.int j] ∧ -(2 ^ 62) ≤ j ∧ j < 2 ^ 62 ∧ R (Itr 0 j.toNat) H1
def iRng2 (ta : TA) : TI := fun σ H R => ta σ H fun vs H1 => ∃ i j : Int, vs = [.int i, .int j] ∧ (-(2 ^ 62) ≤ i ∧ i < 2 ^ 62 ∧ -(2 ^ 62) ≤ j ∧ j < 2 ^ 62) ∧ R (Itr i (j - i).toNat) H1
theorem pi_range1 {a : Expr} {ta : TA} {p pos : Pos} (hg : Gl X "range") (hm : X.mg "range" = none) (ha : PA X [a] ta) (hs : starEach [a] X.env = [(false, eval a X.env)] := by rfl) : PI X tg (.Call (.Name "range" p) [a] [] pos) (iRng1 ta) := by
  intro pins s σ H R I h
  refine Call_ (ld_blt I hg hm boot_range (PyProof.Rows.callWith_type1 (thn (ha pos pins s σ H _ I h) fun us s1 ⟨vs, H1, I1, r1, q1⟩ => ?_) hs rfl))
  obtain ⟨j, e, q1, q2, q⟩ := q1
  subst e
  cases r1 with
  | cons r rr =>
    cases rr
    obtain ⟨t, rfl⟩ := r
    exact call_range_1 (range_it I1 (by omega) (by omega) q1 q2 (by simpa using q))
/-! ### for -/
/-- W: the invariant by the turn and a measure; N: what the body is to reach -/
def tFor (wi : TI) (g : TG) (tb : TS) : TS := fun D σ H => wi σ H fun J H1 => ∃ W : Nat → Nat → St → Hp → Prop, (∃ m, W 0 m σ H1) ∧ ∀ i m σ H, W i m σ H →
  (J.stop i H ∧ D.nx σ H) ∨ (J.go i H ∧ ∃ N : St → Hp → Prop, (∀ σ' H', N σ' H' → ∃ m', m' < m ∧ W (i + 1) m' σ' H') ∧ ∀ x H', J.yld i H x H' → g x σ H' fun σ2 H2 => tb { D with nx := N, ct := N, bk := D.nx } σ2 H2)
/-- the records at fp as they stand -/
def pinsAt (fp : List Addr) (h : Heap) : List (Addr × Obj) := fp.filterMap fun b => (h.get? b).map fun o => (b, o)
theorem mem_pinsAt {fp : List Addr} {h : Heap} {b : Addr} {o : Obj} (hb : b ∈ fp) (e : h.get? b = some o) : (b, o) ∈ pinsAt fp h := List.mem_filterMap.mpr ⟨b, hb, by rw [e]; rfl⟩
theorem of_pinsAt {fp : List Addr} {h : Heap} {p : Addr × Obj} (hp : p ∈ pinsAt fp h) : p.1 ∈ fp ∧ h.get? p.1 = some p.2 := by
  obtain ⟨b, hb, e⟩ := List.mem_filterMap.mp hp
  cases q : h.get? b with
  | none => rw [q] at e; cases e
  | some o =>
    rw [q] at e
    have e' : (b, o) = p := Option.some.inj e
    subst e'
    exact ⟨hb, q⟩
theorem Inv.pinned {pins : List (Addr × Obj)} {σ : St} {H : Hp} {s : Shared} {fp : List Addr} (I : Inv X pins σ H s) (hf : ∀ b ∈ fp, FpOk X pins H b) (ho : ∀ b ∈ fp, ∃ o, s.heap.get? b = some o ∧ ∀ v, o.data ≠ .cell v) : Inv X (pins ++ pinsAt fp s.heap) σ H s :=
  I.pins_of fun p hp => (List.mem_append.mp hp).elim (fun z => I.pin p (List.mem_append_right _ z)) fun z => by
    obtain ⟨hb, e⟩ := of_pinsAt z
    obtain ⟨f0, f1, f2, _⟩ := hf p.1 hb
    obtain ⟨o, e', d⟩ := ho p.1 hb
    rw [e] at e'; cases e'
    exact ⟨e, f0, f1, f2, d⟩
theorem Inv.unpinned {pins pl : List (Addr × Obj)} {σ : St} {H : Hp} {s : Shared} (I : Inv X (pins ++ pl) σ H s) : Inv X pins σ H s := I.pins_of fun p hp => I.pin p (List.mem_append_right _ (List.mem_append_left _ hp))
theorem ps_for {iter : Expr} {body : List Stmt} {wi : TI} {g : TG} {tb : TS} {pos : Pos} (hp : PassesOwn (model X.prog X.w) X.A X.env X.xe) (hc : X.calm = true) (hi : PI X tg iter wi) (hg : PG X tg g) (hb : PSs X body tb)
    (hs : ∀ x, foldedSetIterable iter X.env x = pure x := by intro _; rfl) : PS X (.For tg iter body [] pos) (tFor wi g tb) := by
  intro pins s σ H D I h
  refine wpAny_For (thn (hi pins s σ H _ I h) fun v s1 h1 => thn h1 fun itv s2 h2 => ?_) hs
  obtain ⟨it, fp, tn, J, H2, e, I2, T, st2, f2, W, ⟨m0, w0⟩, turn⟩ := h2
  subst e
  -- what stays true of the iterator's objects through the loop
  have stat : ∀ {H' : Hp}, (∀ b ∈ fp, H' b = none) → ∀ b ∈ fp, FpOk X pins H' b := fun hn b hb => ⟨hn b hb, (f2 b hb).2⟩
  refine codeAny_forLoop_any (fun n s' => ∃ i σ' H', Inv X pins σ' H' s' ∧ tn i s'.heap ∧ (∀ b ∈ fp, H' b = none) ∧ W i n σ' H') ?_ m0 ⟨0, σ, H2, I2, st2, fun b hb => (f2 b hb).1, w0⟩
  rintro n s3 ⟨i, σ3, H3, I3, st3, fr3, w3⟩
  rcases turn i n σ3 H3 w3 with ⟨stop, qn⟩ | ⟨go, N, hN, step⟩
  · refine wpAny_passesOwn hp (thn (T.done X rfl rfl rfl hc i pins s3 σ3 H3 X.xe I3 (stat fr3) st3 stop) fun r s4 ⟨hr, I4⟩ => ?_)
    subst hr
    exact wpAny_execs_nil ⟨σ3, H3, I4, qn⟩
  · refine wpAny_passesOwn hp (thn (T.item X rfl rfl rfl hc i pins s3 σ3 H3 X.xe I3 (stat fr3) st3 go) fun r s4 ⟨u, hr, h4⟩ => ?_)
    subst hr
    refine wpAny_passesOwn hp (thn h4 fun _ s5 ⟨x, H5, I5, r5, y5, st5, fr5⟩ => ?_)
    have I5' := I5.pinned (stat fr5) (T.obj _ _ st5)
    refine wpAny_passesOwn hp (thn (hg _ s5 σ3 H5 x u _ I5' r5 (step x H5 y5)) fun _ s6 ⟨σ6, H6, I6, q6⟩ => ?_)
    refine wpAny_passesOwn hp (thn (hb _ s6 σ6 H6 _ I6 q6) fun f s7 q7 => ?_)
    have again : ∀ {σ7 : St} {H7 : Hp}, Inv X (pins ++ pinsAt fp s5.heap) σ7 H7 s7 → N σ7 H7 → ∃ m, m < n ∧ ∃ i σ' H', Inv X pins σ' H' s7 ∧ tn i s7.heap ∧ (∀ b ∈ fp, H' b = none) ∧ W i m σ' H' := fun {σ7 H7} I7 n7 => by
      obtain ⟨m', hm, w7⟩ := hN σ7 H7 n7
      refine ⟨m', hm, i + 1, σ7, H7, I7.unpinned, T.keep _ _ _ st5 fun b hb o e => (I7.pin (b, o) (List.mem_append_right _ (List.mem_append_right _ (mem_pinsAt hb e)))).1, fun b hb => ?_, w7⟩
      obtain ⟨o, e, d⟩ := T.obj _ _ st5 b hb
      exact (I7.pin (b, o) (List.mem_append_right _ (List.mem_append_right _ (mem_pinsAt hb e)))).2.1
    cases f with
    | next => obtain ⟨σ7, H7, I7, n7⟩ := q7; exact again I7 n7
    | cont => obtain ⟨σ7, H7, I7, n7⟩ := q7; exact again I7 n7
    | brk => obtain ⟨σ7, H7, I7, q7⟩ := q7; exact ⟨σ7, H7, I7.unpinned, q7⟩
    | ret v => obtain ⟨x7, σ7, H7, I7, r7, q7⟩ := q7; exact ⟨x7, σ7, H7, I7.unpinned, r7, q7⟩
end

/-! ### the forms one uses -/
/-- over a list that the body leaves as it is -/
theorem for_list {K : PySem.W.Frag} {a : Addr} {xs : List V} {g : TG} {tb : TS} {D : Ends} {σ : St} {H : Hp} (Pv : Nat → St → Hp → Prop) (h0 : Pv 0 σ H) (hl : ∀ i σ H, i ≤ xs.length → Pv i σ H → SqL K H a xs)
    (hs : ∀ i x σ H, xs[i]? = some x → Pv i σ H → g x σ H fun σ2 H2 => tb { D with nx := Pv (i + 1), ct := Pv (i + 1), bk := D.nx } σ2 H2) (hd : ∀ σ H, Pv xs.length σ H → D.nx σ H) :
    ∃ W : Nat → Nat → St → Hp → Prop, (∃ m, W 0 m σ H) ∧ ∀ i m σ H, W i m σ H →
      ((Itl K a).stop i H ∧ D.nx σ H) ∨ ((Itl K a).go i H ∧ ∃ N : St → Hp → Prop, (∀ σ' H', N σ' H' → ∃ m', m' < m ∧ W (i + 1) m' σ' H') ∧ ∀ x H', (Itl K a).yld i H x H' → g x σ H' fun σ2 H2 => tb { D with nx := N, ct := N, bk := D.nx } σ2 H2) := by
  refine ⟨fun i m σ H => m = xs.length - i ∧ i ≤ xs.length ∧ Pv i σ H, ⟨xs.length, by simp, Nat.zero_le _, h0⟩, ?_⟩
  rintro i m σ H ⟨rfl, hi, p⟩
  have q := hl i σ H hi p
  by_cases hlt : i < xs.length
  · refine .inr ⟨⟨xs, xs[i], q, by simp [hlt]⟩, Pv (i + 1), fun σ' H' p' => ⟨xs.length - (i + 1), by omega, rfl, hlt, p'⟩, fun x H' y => ?_⟩
    obtain ⟨e, y⟩ := y
    subst e
    exact hs i x σ _ (y xs q) p
  · have e : i = xs.length := by omega
    subst e
    exact .inl ⟨⟨xs, q, Nat.le_refl _⟩, hd σ H p⟩
theorem for_range {lo : Int} {n : Nat} {g : TG} {tb : TS} {D : Ends} {σ : St} {H : Hp} (Pv : Nat → St → Hp → Prop) (h0 : Pv 0 σ H)
    (hs : ∀ i σ H, i < n → Pv i σ H → g (.int (lo + i)) σ H fun σ2 H2 => tb { D with nx := Pv (i + 1), ct := Pv (i + 1), bk := D.nx } σ2 H2) (hd : ∀ σ H, Pv n σ H → D.nx σ H) :
    ∃ W : Nat → Nat → St → Hp → Prop, (∃ m, W 0 m σ H) ∧ ∀ i m σ H, W i m σ H →
      ((Itr lo n).stop i H ∧ D.nx σ H) ∨ ((Itr lo n).go i H ∧ ∃ N : St → Hp → Prop, (∀ σ' H', N σ' H' → ∃ m', m' < m ∧ W (i + 1) m' σ' H') ∧ ∀ x H', (Itr lo n).yld i H x H' → g x σ H' fun σ2 H2 => tb { D with nx := N, ct := N, bk := D.nx } σ2 H2) := by
  refine ⟨fun i m σ H => m = n - i ∧ i ≤ n ∧ Pv i σ H, ⟨n, by simp, Nat.zero_le _, h0⟩, ?_⟩
  rintro i m σ H ⟨rfl, hi, p⟩
  by_cases hlt : i < n
  · refine .inr ⟨hlt, Pv (i + 1), fun σ' H' p' => ⟨n - (i + 1), by omega, rfl, hlt, p'⟩, fun x H' y => ?_⟩
    obtain ⟨e, y⟩ := y
    subst e y
    exact hs i σ _ hlt p
  · have e : i = n := by omega
    subst e
    exact .inl ⟨Nat.le_refl _, hd σ H p⟩
/-- while, by a word and a measure of the state -/
theorem while_by {c : TT} {tb : TS} {D : Ends} {σ : St} {H : Hp} (Pv : St → Hp → Prop) (μ : St → Hp → Nat) (h0 : Pv σ H)
    (hs : ∀ σ H, Pv σ H → c σ H fun b H1 => if b = true then tb { D with nx := fun σ' H' => Pv σ' H' ∧ μ σ' H' < μ σ H, ct := fun σ' H' => Pv σ' H' ∧ μ σ' H' < μ σ H, bk := D.nx } σ H1 else D.nx σ H1)
    (mono : ∀ σ H Q Q', (∀ b H1, Q b H1 → Q' b H1) → c σ H Q → c σ H Q') : tWhile c tb D σ H := by
  refine ⟨fun m σ H => m = μ σ H ∧ Pv σ H, ⟨_, rfl, h0⟩, ?_⟩
  rintro m σ H ⟨rfl, p⟩
  refine mono σ H _ _ (fun b H1 q => ?_) (hs σ H p)
  cases b with
  | true => exact ⟨_, fun σ' H' ⟨p', l⟩ => ⟨_, l, rfl, p'⟩, q⟩
  | false => exact q
end L2

namespace L2
open PySem PySem.Spec PyProof.Rows

abbrev R2 := V → V → Hp → VK → Prop
/-- a two-place operation on values: f is binaryOp op, inplaceOp op or compareOp op -/
def OpR (X : Cx) (f : Value → Value → Sem Value) (r : R2) : Prop :=
  ∀ (pins : List (Addr × Obj)) (s : Shared) (σ : St) (H : Hp) (x y : V) (v u : Value) (Q : VK), Inv X pins σ H s → RelV x v → RelV y u → r x y H Q →
    wpAny (model X.prog X.w) X.A (f v u) (EP X pins σ Q) X.xe s
/-- a one-place operation -/
def UnR (X : Cx) (f : Value → Sem Value) (r : V → Hp → VK → Prop) : Prop :=
  ∀ (pins : List (Addr × Obj)) (s : Shared) (σ : St) (H : Hp) (x : V) (v : Value) (Q : VK), Inv X pins σ H s → RelV x v → r x H Q →
    wpAny (model X.prog X.w) X.A (f v) (EP X pins σ Q) X.xe s
/-- a call of a value that is known (a builtin, a type) with values -/
def CallR (X : Cx) (f : Value) (r : List V → Hp → VK → Prop) : Prop :=
  ∀ (pins : List (Addr × Obj)) (s : Shared) (σ : St) (H : Hp) (xs : List V) (us : List Value) (Q : VK), Inv X pins σ H s → Vals xs us → r xs H Q →
    wpAny (model X.prog X.w) X.A (call f us) (EP X pins σ Q) X.xe s
/-- a value's truth -/
def TruR (X : Cx) (r : V → Hp → (Bool → Hp → Prop) → Prop) : Prop :=
  ∀ (pins : List (Addr × Obj)) (s : Shared) (σ : St) (H : Hp) (x : V) (v : Value) (Q : Bool → Hp → Prop), Inv X pins σ H s → RelV x v → r x H Q →
    wpAny (model X.prog X.w) X.A (truthy v) (TP X pins σ Q) X.xe s

def tOp (r : R2) (ta tb : TE) : TE := fun σ H Q => ta σ H fun x H1 => tb σ H1 fun y H2 => r x y H2 Q
def tUn (r : V → Hp → VK → Prop) (ta : TE) : TE := fun σ H Q => ta σ H fun x H1 => r x H1 Q
/-- ints in, under C, and a value out -/
def rI (C : Int → Int → Prop) (g : Int → Int → V) : R2 := fun x y H Q => ∃ i j, x = .int i ∧ y = .int j ∧ C i j ∧ Q (g i j) H
def rI0 (g : Int → Int → V) : R2 := fun x y H Q => ∃ i j, x = .int i ∧ y = .int j ∧ Q (g i j) H
def rU (g : Int → V) : V → Hp → VK → Prop := fun x H Q => ∃ i, x = .int i ∧ Q (g i) H

section
variable {X : Cx} {a b c : Expr} {ta tb tc : TE} {pos : Pos}

theorem binT (ha : PE X a ta) (hb : PE X b tb) {pins : List (Addr × Obj)} {s : Shared} {σ : St} {H : Hp} {R : V → V → Hp → Prop} (I : Inv X pins σ H s)
    (h : ta σ H fun x H1 => tb σ H1 fun y H2 => R x y H2) {Q : Value → Shared → Prop} {f : Value → Value → Sem Value}
    (hf : ∀ v u s2 x y H2, Inv X pins σ H2 s2 → RelV x v → RelV y u → R x y H2 → wpAny (model X.prog X.w) X.A (f v u) Q X.xe s2) :
    wpAny (model X.prog X.w) X.A (eval a X.env) (fun v s₁ => wpAny (model X.prog X.w) X.A (eval b X.env) (fun u s₂ => wpAny (model X.prog X.w) X.A (f v u) Q X.xe s₂) X.xe s₁) X.xe s := by
  refine thn (ha pins s σ H _ I h) fun v s1 ⟨x, H1, I1, r1, q1⟩ => ?_
  refine thn (hb pins s1 σ H1 _ I1 q1) fun u s2 ⟨y, H2, I2, r2, q2⟩ => ?_
  exact hf v u s2 x y H2 I2 r1 r2 q2

theorem pe_op {op : Operator} {r : R2} (ho : OpR X (binaryOp op) r) (ha : PE X a ta) (hb : PE X b tb) : PE X (.BinOp a op b pos) (tOp r ta tb) := by
  intro pins s σ H Q I h
  exact wpAny_BinOp (binT ha hb I h fun v u s2 x y H2 I2 rx ry q => ho pins s2 σ H2 x y v u Q I2 rx ry q)
/-! ### ints -/
theorem opI {f : Value → Value → Sem Value} {C : Int → Int → Prop} {g : Int → Int → Int}
    (rule : ∀ (i j : Int) (t u : Tok) (s : Shared) (Q : Value → Shared → Prop) (E : Value → Shared → Prop), C i j → Q (.int (g i j) s.toks) { s with toks := s.toks + 1 } → wpAny (model X.prog X.w) X.A (f (.int i t) (.int j u)) Q E s) :
    OpR X f (rI C fun i j => .int (g i j)) := by
  intro pins s σ H x y v u Q I rx ry h
  obtain ⟨i, j, rfl, rfl, hc, q⟩ := h
  obtain ⟨t, rfl⟩ := rx
  obtain ⟨t', rfl⟩ := ry
  exact rule i j t t' s _ _ hc ⟨.int (g i j), H, I.tok _, ⟨_, rfl⟩, q⟩
theorem opI0 {f : Value → Value → Sem Value} {g : Int → Int → Int}
    (rule : ∀ (i j : Int) (t u : Tok) (s : Shared) (Q : Value → Shared → Prop) (E : Value → Shared → Prop), Q (.int (g i j) s.toks) { s with toks := s.toks + 1 } → wpAny (model X.prog X.w) X.A (f (.int i t) (.int j u)) Q E s) :
    OpR X f (rI0 fun i j => .int (g i j)) := by
  intro pins s σ H x y v u Q I rx ry h
  obtain ⟨i, j, rfl, rfl, q⟩ := h
  obtain ⟨t, rfl⟩ := rx
  obtain ⟨t', rfl⟩ := ry
  exact rule i j t t' s _ _ ⟨.int (g i j), H, I.tok _, ⟨_, rfl⟩, q⟩
theorem opB0 {f : Value → Value → Sem Value} {g : Int → Int → Bool}
    (rule : ∀ (i j : Int) (t u : Tok) (s : Shared) (Q : Value → Shared → Prop) (E : Value → Shared → Prop), Q (.bool (g i j)) s → wpAny (model X.prog X.w) X.A (f (.int i t) (.int j u)) Q E s) :
    OpR X f (rI0 fun i j => .bl (g i j)) := by
  intro pins s σ H x y v u Q I rx ry h
  obtain ⟨i, j, rfl, rfl, q⟩ := h
  obtain ⟨t, rfl⟩ := rx
  obtain ⟨t', rfl⟩ := ry
  exact rule i j t t' s _ _ ⟨.bl (g i j), H, I, rfl, q⟩

def CDiv (i j : Int) : Prop := 0 < j ∧ j < 1073741824
def CDivN (i j : Int) : Prop := j ≠ 0 ∧ j.natAbs < 1073741824
def CPow (i j : Int) : Prop := 0 ≤ j ∧ j ≤ 1000000 ∧ i.natAbs < 2 ^ 64
def CMul (i j : Int) : Prop := (-(2 ^ 64) < i ∧ i < 2 ^ 64) ∨ (-(2 ^ 64) < j ∧ j < 2 ^ 64)
theorem CMul.ok {i j : Int} (h : CMul i j) : IntMulOk i j := by
  rcases h with ⟨h1, h2⟩ | ⟨h1, h2⟩
  · exact .of_left (intBits_le_64 h1 h2)
  · exact .of_right (intBits_le_64 h1 h2)
theorem op_add : OpR X (binaryOp .Add) (rI0 fun i j => .int (i + j)) := opI0 fun _ _ _ _ _ _ _ q => add_int q
theorem op_sub : OpR X (binaryOp .Sub) (rI0 fun i j => .int (i - j)) := opI0 fun _ _ _ _ _ _ _ q => sub_int q
theorem op_mul : OpR X (binaryOp .Mult) (rI CMul fun i j => .int (i * j)) := opI fun _ _ _ _ _ _ _ hc q => mul_int q hc.ok
/-- // by a positive divisor -/
theorem op_fdiv : OpR X (binaryOp .FloorDiv) (rI CDiv fun i j => .int (i / j)) := opI fun i j _ _ _ _ _ hc q => by
  have h1 : (0 : Int) < j := hc.1
  have h2 : j < 1073741824 := hc.2
  exact floordiv_int (by omega) (by rw [Int.fdiv_eq_ediv_of_nonneg i (by omega)]; exact q) (.inl (PyProof.noPylong_small (by omega)))
/-- % by a positive divisor of any size -/
theorem op_mod : OpR X (binaryOp .Mod) (rI (fun _ j => 0 < j) fun i j => .int (i % j)) := opI fun i j _ _ _ _ _ hc q => by
  have h1 : (0 : Int) < j := hc
  exact mod_int' (by omega) (by rw [Int.fmod_eq_emod_of_nonneg i (by omega)]; exact q)
/-! ### bools among ints: n += (a < b) -/
end

/-! ### comparisons -/
/-- the scalars that == tells apart as data does -/
def scal : V → V → Bool
  | .non, .non => true | .non, .int _ => true | .int _, .non => true | .non, .bl _ => true | .bl _, .non => true | .non, .str _ => true | .str _, .non => true
  | .int _, .int _ => true | .bl _, .bl _ => true | .str _, .str _ => true | .byt _, .byt _ => true
  | .int _, .str _ => true | .str _, .int _ => true | .bl _, .str _ => true | .str _, .bl _ => true
  | _, _ => false
def rEq : R2 := fun x y H Q => scal x y = true ∧ Q (.bl (decide (x = y))) H
def rNe : R2 := fun x y H Q => scal x y = true ∧ Q (.bl (!decide (x = y))) H

theorem dec_int {i j : Int} : decide (V.int i = V.int j) = (i == j) := by
  rw [Bool.eq_iff_iff]
  simp
theorem dec_bl {i j : Bool} : decide (V.bl i = V.bl j) = (i == j) := by
  rw [Bool.eq_iff_iff]
  simp
theorem dec_str {i j : Str} : decide (V.str i = V.str j) = (i == j) := by
  rw [Bool.eq_iff_iff]
  simp
theorem dec_byt {i j : Array UInt8} : decide (V.byt i = V.byt j) = (i.toList == j.toList) := by
  rw [Bool.eq_iff_iff]
  cases i
  cases j
  simp

section
variable {X : Cx} {a b c : Expr} {ta tb tc : TE} {pos : Pos}
theorem fin_bl {pins : List (Addr × Obj)} {σ : St} {H : Hp} {s : Shared} {Q : VK} {k k' : Bool} (I : Inv X pins σ H s) (q : Q (.bl k) H) (e : k = k') : EP X pins σ Q (.bool k') s := by
  subst e
  exact ⟨.bl k, H, I, rfl, q⟩
theorem op_eq : OpR X (compareOp .Eq) rEq := by
  intro pins s σ H x y v u Q I rx ry h
  obtain ⟨hs, q⟩ := h
  cases x with
  | non =>
    cases rx
    cases y with
    | non => cases ry; exact PySem.EqNone.eq_none_none (fin_bl I q (by simp))
    | bl j => cases ry; exact PySem.EqNone.eq_none_bool (fin_bl I q (by simp))
    | int j => obtain ⟨t', rfl⟩ := ry; exact PySem.EqNone.eq_none_int (fin_bl I q (by simp))
    | str j => obtain ⟨t', rfl⟩ := ry; exact PySem.EqNone.eq_none_str (fin_bl I q (by simp))
    | _ => exact absurd (show false = true from hs) Bool.false_ne_true
  | bl i =>
    cases rx
    cases y with
    | non => cases ry; exact PySem.EqNone.eq_bool_none (fin_bl I q (by simp))
    | bl j => cases ry; exact eq_bool (fin_bl I q dec_bl)
    | str j => obtain ⟨t', rfl⟩ := ry; exact PySem.EqMixed.eq_bool_str (fin_bl I q (by simp))
    | _ => exact absurd (show false = true from hs) Bool.false_ne_true
  | int i =>
    obtain ⟨t, rfl⟩ := rx
    cases y with
    | non => cases ry; exact PySem.EqNone.eq_int_none (fin_bl I q (by simp))
    | int j => obtain ⟨t', rfl⟩ := ry; exact eq_int (fin_bl I q dec_int)
    | str j => obtain ⟨t', rfl⟩ := ry; exact PySem.EqMixed.eq_int_str (fin_bl I q (by simp))
    | _ => exact absurd (show false = true from hs) Bool.false_ne_true
  | str i =>
    obtain ⟨t, rfl⟩ := rx
    cases y with
    | non => cases ry; exact PySem.EqNone.eq_str_none (fin_bl I q (by simp))
    | bl j => cases ry; exact PySem.EqMixed.eq_str_bool (fin_bl I q (by simp))
    | int j => obtain ⟨t', rfl⟩ := ry; exact PySem.EqMixed.eq_str_int (fin_bl I q (by simp))
    | str j => obtain ⟨t', rfl⟩ := ry; exact eq_str (fin_bl I q dec_str)
    | _ => exact absurd (show false = true from hs) Bool.false_ne_true
  | byt i =>
    obtain ⟨t, rfl⟩ := rx
    cases y with
    | byt j => obtain ⟨t', rfl⟩ := ry; exact PySem.W.eq_bytes (fin_bl I q dec_byt)
    | _ => exact absurd (show false = true from hs) Bool.false_ne_true
  | _ => cases y <;> exact absurd (show false = true from hs) Bool.false_ne_true
theorem op_ne : OpR X (compareOp .NotEq) rNe := by
  intro pins s σ H x y v u Q I rx ry h
  obtain ⟨hs, q⟩ := h
  cases x with
  | non =>
    cases rx
    cases y with
    | non => cases ry; exact PySem.EqNone.ne_none_none (fin_bl I q (by simp))
    | bl j => cases ry; exact PySem.EqNone.ne_none_bool (fin_bl I q (by simp))
    | int j => obtain ⟨t', rfl⟩ := ry; exact PySem.EqNone.ne_none_int (fin_bl I q (by simp))
    | str j => obtain ⟨t', rfl⟩ := ry; exact PySem.EqNone.ne_none_str (fin_bl I q (by simp))
    | _ => exact absurd (show false = true from hs) Bool.false_ne_true
  | bl i =>
    cases rx
    cases y with
    | non => cases ry; exact PySem.EqNone.ne_bool_none (fin_bl I q (by simp))
    | bl j => cases ry; exact ne_bool (fin_bl I q (congrArg not dec_bl))
    | str j => obtain ⟨t', rfl⟩ := ry; exact PySem.EqMixed.ne_bool_str (fin_bl I q (by simp))
    | _ => exact absurd (show false = true from hs) Bool.false_ne_true
  | int i =>
    obtain ⟨t, rfl⟩ := rx
    cases y with
    | non => cases ry; exact PySem.EqNone.ne_int_none (fin_bl I q (by simp))
    | int j => obtain ⟨t', rfl⟩ := ry; exact ne_int (fin_bl I q (congrArg not dec_int))
    | str j => obtain ⟨t', rfl⟩ := ry; exact PySem.EqMixed.ne_int_str (fin_bl I q (by simp))
    | _ => exact absurd (show false = true from hs) Bool.false_ne_true
  | str i =>
    obtain ⟨t, rfl⟩ := rx
    cases y with
    | non => cases ry; exact PySem.EqNone.ne_str_none (fin_bl I q (by simp))
    | bl j => cases ry; exact PySem.EqMixed.ne_str_bool (fin_bl I q (by simp))
    | int j => obtain ⟨t', rfl⟩ := ry; exact PySem.EqMixed.ne_str_int (fin_bl I q (by simp))
    | str j => obtain ⟨t', rfl⟩ := ry; exact ne_str (fin_bl I q (congrArg not dec_str))
    | _ => exact absurd (show false = true from hs) Bool.false_ne_true
  | byt i =>
    obtain ⟨t, rfl⟩ := rx
    cases y with
    | byt j => obtain ⟨t', rfl⟩ := ry; exact PySem.W.ne_bytes (fin_bl I q (congrArg not dec_byt))
    | _ => exact absurd (show false = true from hs) Bool.false_ne_true
  | _ => cases y <;> exact absurd (show false = true from hs) Bool.false_ne_true

theorem op_lt : OpR X (compareOp .Lt) (rI0 fun i j => .bl (decide (i < j))) := opB0 fun _ _ _ _ _ _ _ q => lt_int q
theorem op_le : OpR X (compareOp .LtE) (rI0 fun i j => .bl (decide (i ≤ j))) := opB0 fun _ _ _ _ _ _ _ q => le_int q
theorem op_gt : OpR X (compareOp .Gt) (rI0 fun i j => .bl (decide (j < i))) := opB0 fun _ _ _ _ _ _ _ q => gt_int q
theorem op_ge : OpR X (compareOp .GtE) (rI0 fun i j => .bl (decide (j ≤ i))) := opB0 fun _ _ _ _ _ _ _ q => ge_int q
/-- is None, is not None: the right side a value none -/
theorem op_isN : OpR X (compareOp .Is) (fun x y H Q => y = .non ∧ Q (.bl (decide (x = .non))) H) := by
  intro pins s σ H x y v u Q I rx ry h
  obtain ⟨rfl, q⟩ := h
  cases ry
  refine is_none_gen (fin_bl I q ?_)
  cases x <;> first
    | (cases rx; rfl)
    | (obtain ⟨t, rfl⟩ := rx; rfl)
theorem op_notN : OpR X (compareOp .IsNot) (fun x y H Q => y = .non ∧ Q (.bl (!decide (x = .non))) H) := by
  intro pins s σ H x y v u Q I rx ry h
  obtain ⟨rfl, q⟩ := h
  cases ry
  refine isnot_none_gen (fin_bl I q ?_)
  cases x <;> first
    | (cases rx; rfl)
    | (obtain ⟨t, rfl⟩ := rx; rfl)

/-- is, is not of two objects that are tracked lists or instances -/
def isObj : HO → Bool
  | .lst _ => true
  | .ins _ _ _ => true
  | _ => false
theorem nomark (b : Expr) {op : CmpOp} (h : op ≠ .In := by decide) (h2 : op ≠ .NotIn := by decide) : behindInMarks op b = false := by
  have e1 : (op == CmpOp.In) = false := by cases op <;> first | rfl | exact absurd rfl h
  have e2 : (op == CmpOp.NotIn) = false := by cases op <;> first | rfl | exact absurd rfl h2
  cases b <;> simp [behindInMarks, e1, e2]
/-- a comparison as a value; hm: nomark b, or (for in, not in) by with_unfolding_all rfl -/
theorem pe_cmpR {op : CmpOp} {r : R2} (ho : OpR X (compareOp op) r) (ha : PE X a ta) (hb : PE X b tb) (hm : behindInMarks op b = false) : PE X (.Compare a [op] [b] pos) (tOp r ta tb) := by
  intro pins s σ H Q I h
  exact wpAny_Compare1 (binT ha hb I h fun v u s2 x y H2 I2 rx ry q => ho pins s2 σ H2 x y v u Q I2 rx ry q) hm
/-- a reading of a value as a test -/
def tTest (t : TE) : TT := fun σ H Q => t σ H fun x H' => ∃ k, x = .bl k ∧ Q k H'
theorem pt_cmpR {op : CmpOp} {r : R2} (ho : OpR X (compareOp op) r) (ha : PE X a ta) (hb : PE X b tb) (hm : behindInMarks op b = false) : PT X (.Compare a [op] [b] pos) (tTest (tOp r ta tb)) := by
  intro pins s σ H Q I h
  refine wpAny_isTrue_Compare1 (thn (ha pins s σ H _ I h) fun v s1 ⟨x, H1, I1, r1, q1⟩ => thn (hb pins s1 σ H1 _ I1 q1) fun u s2 ⟨y, H2, I2, r2, q2⟩ =>
    thn (ho pins s2 σ H2 x y v u _ I2 r1 r2 q2) fun c s3 ⟨z, H3, I3, r3, k, e, q3⟩ => ?_) hm
  subst e
  cases r3
  exact wpAny_truthy_bool ⟨H3, I3, q3⟩
/-- a op1 b op2 c -/
def tChain (r r' : R2) (ta tb tc : TE) : TE := fun σ H Q => ta σ H fun x H1 => tb σ H1 fun y H2 => r x y H2 fun z H3 => ∃ k, z = .bl k ∧
  (if k = true then tc σ H3 fun w' H4 => r' y w' H4 Q else Q (.bl false) H3)
theorem pt_chain {op op' : CmpOp} {r r' : R2} (ho : OpR X (compareOp op) r) (ho' : OpR X (compareOp op') r') (ha : PE X a ta) (hb : PE X b tb) (hc : PE X c tc)
    (hm : lastMarks [op, op'] [b, c] = false := by with_unfolding_all rfl) : PT X (.Compare a [op, op'] [b, c] pos) (tTest (tChain r r' ta tb tc)) := by
  intro pins s σ H Q I h
  refine isTrue_chain (thn (ha pins s σ H _ I h) fun v s1 ⟨x, H1, I1, r1, q1⟩ => test_link (thn (hb pins s1 σ H1 _ I1 q1) fun u s2 ⟨y, H2, I2, r2, q2⟩ =>
    thn (ho pins s2 σ H2 x y v u _ I2 r1 r2 q2) fun d s3 ⟨z, H3, I3, r3, k, e, q3⟩ => ?_)) hm
  subst e
  cases r3
  refine wpAny_truthy_bool ?_
  cases k with
  | false =>
    obtain ⟨k', e', q'⟩ := q3
    cases e'
    exact ite_ff ⟨H3, I3, q'⟩
  | true =>
    refine ite_tt (test_last (thn (hc pins s3 σ H3 _ I3 q3) fun w' s4 ⟨z', H4, I4, r4, q4⟩ => thn (ho' pins s4 σ H4 y z' u w' _ I4 r2 r4 q4) fun d' s5 ⟨z2, H5, I5, r5, k2, e2, q5⟩ => ?_))
    subst e2
    cases r5
    exact wpAny_truthy_bool ⟨H5, I5, q5⟩

/-! ### truth -/
/-- a value's truth by the abstract heap -/
def TruV (K : PySem.W.Frag) (x : V) (H : Hp) (k : Bool) : Prop :=
  match x with
  | .non => k = false
  | .bl b => k = b
  | .int i => k = (i != 0)
  | .str y => y.length ≤ sizeLine ∧ k = ((y.length : Int) != 0)
  | .byt y => y.size ≤ sizeLine ∧ k = ((y.size : Int) != 0)
  | .ref p => (∃ xs, SqL K H p xs ∧ k = !xs.isEmpty) ∨ (∃ xs, SqT K H p xs ∧ k = !xs.isEmpty) ∨ ∃ kvs, H p = some (.dK kvs) ∧ k = !kvs.isEmpty
  | _ => False
theorem line63 : (sizeLine : Nat) < 2 ^ 63 := by rw [sizeLine_eq]; decide
/-! ### strs and bytes -/
def PlainIxT (b : Expr) : Prop := ∀ o i, subscripted b false o i = operate [o, i] (getItem o i)
/-! ### scalar builtins, by CallR -/
theorem vals1 {x : V} {us : List Value} (r : Vals [x] us) : ∃ u, us = [u] ∧ RelV x u := by
  cases r with
  | cons r1 r2 => cases r2; exact ⟨_, rfl, r1⟩
theorem vals2 {x y : V} {us : List Value} (r : Vals [x, y] us) : ∃ u w', us = [u, w'] ∧ RelV x u ∧ RelV y w' := by
  cases r with
  | cons r1 r2 =>
    cases r2 with
    | cons r3 r4 => cases r4; exact ⟨_, _, rfl, r1, r3⟩
theorem call_max2 (hc : X.calm = true) : CallR X (.builtin "max") (fun xs H Q => ∃ i j, xs = [.int i, .int j] ∧ Q (.int (if j > i then j else i)) H) := by
  intro pins s σ H xs us Q I r h
  obtain ⟨i, j, rfl, q⟩ := h
  obtain ⟨u, w', rfl, ⟨t, rfl⟩, ⟨t', rfl⟩⟩ := vals2 r
  refine max_two_ints (I.ok.hd hc) fun h' tk k => ⟨_, H, I.kept k, ?_, q⟩
  by_cases hj : j > i
  · rw [if_pos hj, if_pos hj]; exact ⟨_, rfl⟩
  · rw [if_neg hj, if_neg hj]; exact ⟨_, rfl⟩
theorem call_min2 (hc : X.calm = true) : CallR X (.builtin "min") (fun xs H Q => ∃ i j, xs = [.int i, .int j] ∧ Q (.int (if j < i then j else i)) H) := by
  intro pins s σ H xs us Q I r h
  obtain ⟨i, j, rfl, q⟩ := h
  obtain ⟨u, w', rfl, ⟨t, rfl⟩, ⟨t', rfl⟩⟩ := vals2 r
  refine min_two_ints (I.ok.hd hc) fun h' tk k => ⟨_, H, I.kept k, ?_, q⟩
  by_cases hj : j < i
  · rw [if_pos hj, if_pos hj]; exact ⟨_, rfl⟩
  · rw [if_neg hj, if_neg hj]; exact ⟨_, rfl⟩
/-- len of a str, a bytes, a list, a tuple -/
def LenV (K : PySem.W.Frag) (x : V) (H : Hp) (n : Nat) : Prop :=
  match x with
  | .str y => y.length ≤ sizeLine ∧ n = y.length
  | .byt y => y.size ≤ sizeLine ∧ n = y.size
  | .ref p => (∃ xs, SqL K H p xs ∧ n = xs.length) ∨ ∃ xs, SqT K H p xs ∧ n = xs.length
  | _ => False
end
end L2

namespace L2
open PySem PySem.Spec PyProof.Rows

/-! ### an instance, its attributes a map -/
structure ObjM (h : Heap) (x dx C : Addr) (mA : Str → Option Value) : Prop where
  obj : h.get? x = some (PySem.W.instObj C dx)
  ns : h.Ns1 dx mA
  ne : dx ≠ x

theorem lookIn_ns {h : Heap} {dx : Addr} {mA : Str → Option Value} (n : h.Ns1 dx mA) : ∃ od, h.get? dx = some od ∧ ∀ name, PySem.W.lookIn name od = some (mA name) := by
  obtain ⟨o, es, ep, ho, hd, hk, _, hm⟩ := n
  refine ⟨o, ho, fun name => ?_⟩
  have e := hm name
  unfold nsFind findBy at e
  rw [← Array.find?_toList] at e
  unfold PySem.W.lookIn
  rw [hd]
  dsimp only
  split
  · rename_i y q
    rw [q] at e
    exact congrArg some e
  · rename_i q
    rw [q] at e
    have a : es.toList.any (·.refKey) = false := by
      rw [List.any_eq_false]
      intro y hy
      obtain ⟨z, t, hkey⟩ := hk y (Array.mem_toList_iff.mp hy)
      simp [DictEntry.refKey, hkey]
    have a' : ¬ es.toList.any (·.refKey) = true := by rw [a]; exact Bool.false_ne_true
    rw [if_neg a']
    exact congrArg some e

theorem ObjM.look {h : Heap} {x dx C : Addr} {mA : Str → Option Value} (I : ObjM h x dx C mA) : ∃ od, PySem.W.InstAt h x (PySem.W.instObj C dx) C (some od) ∧ ∀ name, PySem.W.lookIn name od = some (mA name) :=
  let ⟨od, ho, hl⟩ := lookIn_ns I.ns
  ⟨od, ⟨I.obj, rfl, rfl, ho⟩, hl⟩

section
variable {prog : Program} {w : World} {A : Around} {E : Value → Shared → Prop} {s : Shared} {K : PySem.W.Frag} {x dx C f : Addr} {mA : Str → Option Value} {name : Str} {v : Value}

theorem get_map {expr : Bool} {Q : Value → Shared → Prop} (X : K.In s.heap) (I : ObjM s.heap x dx C mA) (hg : PySem.W.plainGet K C name = true) (hh : PySem.W.hasDictIn K C = true)
    (ha : PySem.W.findIn K (.ref C) name = some none) (hv : mA name = some v) (hv' : PySem.W.handedIn v = true) (h : Q v { s with toks := s.toks + 1 }) :
    wpAny (model prog w) A (getAttr (.ref x) name expr) Q E s := by
  obtain ⟨od, J, hl⟩ := I.look
  exact PySem.W.get_value X J (PySem.W.plainGet_of hg).1 (PySem.W.findObj_own hh ha rfl (by rw [hl, hv])) hv' h

theorem get_meth {pl : Sem Bool} {Q : Value × List Value → Shared → Prop} (X : K.In s.heap) (I : ObjM s.heap x dx C mA) (hg : PySem.W.plainGet K C name = true)
    (hf : PySem.W.findIn K (.ref C) name = some (some (.ref f))) (ht : PySem.W.isFn K (.ref f) = true) (hv : mA name = none) (h : Q (.ref f, [.ref x]) s) :
    wpAny (model prog w) A (getMethod (.ref x) name pl) Q E s := by
  obtain ⟨od, J, hl⟩ := I.look
  exact PySem.W.method_fn X J (PySem.W.plainGet_of hg).1 (PySem.W.plainGet_of hg).2 hf (beq_iff_eq.mp ht) (by show (PySem.W.lookIn name od).map (·.isSome) = some false; rw [hl, hv]; rfl) h

theorem set_map {ns : List Str} {Q : Unit → Shared → Prop} (X : K.In s.heap) (I : ObjM s.heap x dx C mA)
    (hs : PySem.W.findIn K (.ref C) "__setattr__" = some (some (.builtin "object.__setattr__"))) (hp : PySem.W.plainOver K C = true) (ht : PySem.W.takerIn K C name = some none) (hh : PySem.W.hasDictIn K C = true)
    (hw : PySem.Within mA ns) (hsz : ns.length ≤ sizeLine)
    (h : ∀ h', ObjM h' x dx C (fun y => if y = name then some v else mA y) → Heap.SameBut dx s.heap h' → Q () { s with heap := h', toks := s.toks + 2 }) :
    wpAny (model prog w) A (setAttr (.ref x) name v) Q E s := by
  obtain ⟨od, J, hl⟩ := I.look
  refine PySem.W.set_plain X J hs (PySem.W.osa_open (s := { s with toks := s.toks + 1 }) (r := none) X J hp ht fun b => ?_)
  obtain ⟨cd, hc, hd'⟩ := PySem.W.any_some hh
  have hx : s.heap.get? x = some ⟨.ref C, some dx, .plain, #[]⟩ := I.obj
  refine wpAny_bind (wpAny_pure (wpAny_bind (wpAny_bind (wpAny_loadPart hx (wpAny_bind (PySem.W.Looks.here (s := { s with toks := s.toks + 1 }) (PySem.W.looks_clsIn X hc) ?_))))))
  rw [hd']
  refine wpAny_pure (a := some dx) (wpAny_bind (wpAny_pure (wpAny_bind ?_)))
  refine wpAny_nsSet1 (s := { s with toks := s.toks + 1 }) I.ns fun h' hn2 hs2 => ?_
  obtain ⟨oD, esD, epD, hoD, hdD, hcD⟩ := hn2.count (PySem.Within.cons name v hw)
  refine wpAny_bind (wpAny_lookBehind hoD (by rw [hdD]; exact pastItsLine_dict (Nat.le_trans hcD (by rw [List.length_cons]; omega))) ?_)
  exact wpAny_pure (h _ ⟨(hs2.2 _ (Ne.symm I.ne)).trans I.obj, hn2, I.ne⟩ hs2)

/-- C(..): the dict at the heap's end, the instance behind it; then its __init__ -/
theorem make_map {R : Result → Shared → Prop} {vs : List Value} {kw : List (Str × Value)} (X : K.In s.heap) (hm : PySem.W.makesIn K C = true)
    (hi : PySem.W.findIn K (.ref C) "__init__" = some (some (.ref f))) (hf : PySem.W.typeIn K (.ref f) = some (.type "function"))
    (h : codeAny (model prog w) (A.under (.builtin "type.__call__" ⟨.ref C :: vs, kw⟩)) (.call (.ref f) ⟨.ref (s.heap.objs.size + 1) :: vs, kw⟩) (PySem.W.InitBack (s.heap.objs.size + 1) R)
      { s with heap := (s.heap.push PySem.W.emptyDict).push (PySem.W.instObj C s.heap.objs.size) }) :
    codeAny (model prog w) A (.call (.ref C) ⟨vs, kw⟩) R s := by
  obtain ⟨hh, g, d, t, os⟩ := s
  exact PySem.W.make_core (PySem.W.makes_of X hm) (PySem.W.looks_findIn X hi) (fun self => PySem.W.bind_fn X self hf) (.inl rfl) h
end

/-! ### the attributes as a list of pairs -/
def putF (f : Str) (v : V) : List (Str × V) → List (Str × V)
  | [] => [(f, v)]
  | (g, x) :: r => if g = f then (g, v) :: r else (g, x) :: putF f v r
theorem lookup_putF (f g : Str) (v : V) : ∀ fs : List (Str × V), (putF f v fs).lookup g = if g = f then some v else fs.lookup g
  | [] => by
    show List.lookup g [(f, v)] = _
    by_cases h : g = f
    · have hb : (g == f) = true := beq_iff_eq.mpr h
      simp only [List.lookup, hb, if_pos h]
    · have hb : (g == f) = false := beq_eq_false_iff_ne.mpr h
      simp only [List.lookup, hb, if_neg h]
  | (k, x) :: r => by
    have ih := lookup_putF f g v r
    rw [show putF f v ((k, x) :: r) = (if k = f then (k, v) :: r else (k, x) :: putF f v r) from rfl]
    by_cases hk : k = f
    · rw [if_pos hk]
      by_cases h : g = k
      · have hb : (g == k) = true := beq_iff_eq.mpr h
        simp only [List.lookup, hb, if_pos (h.trans hk)]
      · have hb : (g == k) = false := beq_eq_false_iff_ne.mpr h
        simp only [List.lookup, hb, if_neg (fun e : g = f => h (e.trans hk.symm))]
    · rw [if_neg hk]
      by_cases h : g = k
      · have hb : (g == k) = true := beq_iff_eq.mpr h
        simp only [List.lookup, hb, if_neg (fun e : g = f => hk (h.symm.trans e))]
      · have hb : (g == k) = false := beq_eq_false_iff_ne.mpr h
        simp only [List.lookup, hb]
        exact ih
theorem keys_putF (f : Str) (v : V) : ∀ fs : List (Str × V), f ∈ (putF f v fs).map (·.1) ∧ ∀ g, g ∈ fs.map (·.1) → g ∈ (putF f v fs).map (·.1)
  | [] => ⟨by simp [putF], fun g h => by simp at h⟩
  | (k, x) :: r => by
    obtain ⟨i1, i2⟩ := keys_putF f v r
    rw [show putF f v ((k, x) :: r) = (if k = f then (k, v) :: r else (k, x) :: putF f v r) from rfl]
    by_cases hk : k = f
    · rw [if_pos hk]
      subst hk
      exact ⟨by simp, fun g h => by simpa using h⟩
    · rw [if_neg hk]
      refine ⟨?_, fun g h => ?_⟩
      · rw [List.map_cons]
        exact List.mem_cons_of_mem _ i1
      · rw [List.map_cons] at h ⊢
        rcases List.mem_cons.mp h with e | e
        · exact List.mem_cons.mpr (.inl e)
        · exact List.mem_cons_of_mem _ (i2 g e)
theorem length_putF (f : Str) (v : V) : ∀ fs : List (Str × V), (putF f v fs).length ≤ fs.length + 1
  | [] => by simp [putF]
  | (k, x) :: r => by
    have ih := length_putF f v r
    rw [show putF f v ((k, x) :: r) = (if k = f then (k, v) :: r else (k, x) :: putF f v r) from rfl]
    by_cases hk : k = f
    · rw [if_pos hk, List.length_cons, List.length_cons]; omega
    · rw [if_neg hk, List.length_cons, List.length_cons]; omega

theorem RelO.some_of {v : V} {o : Option Value} (r : RelO (some v) o) : ∃ u, o = some u ∧ RelV v u := by
  cases o with
  | none => exact (show False from r).elim
  | some u => exact ⟨u, rfl, r⟩
theorem RelO.none_of {o : Option Value} (r : RelO none o) : o = none := by
  cases o with
  | none => rfl
  | some u => exact (show False from r).elim
theorem handed_of {v : V} {u : Value} (r : RelV v u) : PySem.W.handedIn u = true := by
  cases v with
  | non => cases (show u = Value.none from r); rfl
  | bl b => cases (show u = Value.bool b from r); rfl
  | int i => obtain ⟨t, e⟩ := (show ∃ t, u = Value.int i t from r); cases e; rfl
  | str x => obtain ⟨t, e⟩ := (show ∃ t, u = Value.str x t from r); cases e; rfl
  | byt b => obtain ⟨t, e⟩ := (show ∃ t, u = Value.bytes b t from r); cases e; rfl
  | flt b => obtain ⟨t, e⟩ := (show ∃ t, u = Value.float b t from r); cases e; rfl
  | ref a => cases (show u = Value.ref a from r); rfl
  | ty n => cases (show u = Value.type n from r); rfl

section
variable {P : Program} {w : World} {H H' : Hp} {h h' : Heap} {a C dx : Addr} {fs fs' : List (Str × V)}
theorem ins_get (hok : HOk P w H h) (e : H a = some (.ins C dx fs)) : ∃ mA, ObjM h a dx C mA ∧ (∀ f, RelO (fs.lookup f) (mA f)) ∧ PySem.Within mA (fs.map (·.1)) ∧ fs.length ≤ 1000 ∧ H dx = some (.own a) := by
  obtain ⟨d, z, ne, ob, mA, n, r, q⟩ := (show ObjOk P w H h a (.ins C dx fs) from hok a _ e)
  exact ⟨mA, ⟨ob, n, ne⟩, r, q, z, d⟩
end

/-! ### what of the text a class must have -/
structure Cls (K : PySem.W.Frag) (C : Addr) : Prop where
  pg : PySem.W.plainGet K C Str.empty = true
  hd : PySem.W.hasDictIn K C = true
  po : PySem.W.plainOver K C = true
  sa : PySem.W.findIn K (.ref C) "__setattr__" = some (some (.builtin "object.__setattr__"))
theorem Cls.get {K : PySem.W.Frag} {C : Addr} (c : Cls K C) (f : Str) : PySem.W.plainGet K C f = true := c.pg
/-- no class of it has the name -/
def NoAttr (K : PySem.W.Frag) (C : Addr) (f : Str) : Prop := PySem.W.findIn K (.ref C) f = some none
theorem NoAttr.taker {K : PySem.W.Frag} {C : Addr} {f : Str} (n : NoAttr K C f) : PySem.W.takerIn K C f = some none := by
  unfold PySem.W.takerIn
  rw [show PySem.W.findIn K (.ref C) f = some none from n]
  rfl
/-- a constant of the class -/
structure Con (K : PySem.W.Frag) (C : Addr) (f : Str) (v : V) (u : Value) : Prop where
  at_ : PySem.W.findIn K (.ref C) f = some (some u)
  rel : RelV v u
  get : PySem.W.specialIn K u "__get__" = some none
  cp : PySem.W.copiedNames.contains f = false
/-- a method: a plain def of the class or of one above it -/
structure Meth (K : PySem.W.Frag) (C : Addr) (m : Str) (f : Addr) : Prop where
  at_ : PySem.W.findIn K (.ref C) m = some (some (.ref f))
  fn : PySem.W.isFn K (.ref f) = true
  kp : PySem.W.keepIn K (.ref f) = true

section
variable {X : Cx} {pins : List (Addr × Obj)} {σ : St} {H : Hp} {s : Shared} {a C dx : Addr} {fs : List (Str × V)} {f : Str} {v : V} {A : Around} {E : Value → Shared → Prop}

theorem getattr_ok {b : Bool} {Q : Value → Shared → Prop} (I : Inv X pins σ H s) (e : H a = some (.ins C dx fs)) (c : Cls X.K C) (n : NoAttr X.K C f) (l : fs.lookup f = some v)
    (h : ∀ u s', Inv X pins σ H s' → RelV v u → Q u s') : wpAny (model X.prog X.w) A (getAttr (.ref a) f b) Q E s := by
  obtain ⟨mA, O, r, _, _, _⟩ := ins_get I.hok e
  obtain ⟨u, hu, ru⟩ := RelO.some_of (v := v) (o := mA f) (by rw [← l]; exact r f)
  exact get_map I.kIn O (c.get f) c.hd n hu (handed_of ru) (h u _ (I.tok _) ru)

theorem getmeth_ok {m : Str} {g : Addr} {pl : Sem Bool} {Q : Value × List Value → Shared → Prop} (I : Inv X pins σ H s) (e : H a = some (.ins C dx fs)) (c : Cls X.K C) (k : Meth X.K C m g) (l : fs.lookup m = none)
    (h : Q (.ref g, [.ref a]) s) : wpAny (model X.prog X.w) A (getMethod (.ref a) m pl) Q E s := by
  obtain ⟨mA, O, r, _, _, _⟩ := ins_get I.hok e
  have hn : mA m = none := RelO.none_of (by rw [← l]; exact r m)
  exact get_meth I.kIn O (c.get m) k.at_ k.fn hn h

theorem setattr_ok {y : V} {u : Value} {Q : Unit → Shared → Prop} (I : Inv X pins σ H s) (e : H a = some (.ins C dx fs)) (c : Cls X.K C) (n : NoAttr X.K C f) (hl : fs.length < 1000) (ry : RelV y u)
    (h : ∀ s', Inv X pins σ (upd H a (.ins C dx (putF f y fs))) s' → Q () s') : wpAny (model X.prog X.w) A (setAttr (.ref a) f u) Q E s := by
  obtain ⟨mA, O, r, wi, _, ho⟩ := ins_get I.hok e
  have hz : (fs.map (·.1)).length ≤ sizeLine := by rw [List.length_map, sizeLine_eq]; omega
  refine set_map I.kIn O c.sa c.po n.taker c.hd wi hz fun h' O' sb => h _ ?_
  have hd : ∃ o, h'.get? dx = some o := let ⟨o, _, _, e', _⟩ := O'.ns; ⟨o, e'⟩
  refine I.write (x := a) (e := dx) (by rw [e]; exact True.intro) (.inr ho) (fun b q hb z => (sb.2 b hb).trans z) hd ?_
  refine ⟨by rw [upd_ne O.ne]; exact ho, ?_, O.ne, O'.obj, _, O'.ns, fun g => ?_, fun g hg => ?_⟩
  · have := length_putF f y fs; omega
  · show RelO ((putF f y fs).lookup g) (if g = f then some u else mA g)
    rw [lookup_putF]
    by_cases q : g = f
    · rw [if_pos q, if_pos q]; exact ry
    · rw [if_neg q, if_neg q]; exact r g
  · by_cases q : g = f
    · rw [q]; exact (keys_putF f y fs).1
    · refine (keys_putF f y fs).2 g (wi g fun z => hg ?_)
      show (if g = f then some u else mA g) = none
      rw [if_neg q]; exact z

/-- a new instance, tracked, without attributes -/
theorem Inv.made (I : Inv X pins σ H s) : Inv X pins σ (upd (upd H s.heap.objs.size (.own (s.heap.objs.size + 1))) (s.heap.objs.size + 1) (.ins C s.heap.objs.size []))
    { s with heap := (s.heap.push PySem.W.emptyDict).push (PySem.W.instObj C s.heap.objs.size) } := by
  have e1 : (s.heap.push PySem.W.emptyDict).get? s.heap.objs.size = some PySem.W.emptyDict := Heap.get?_push_size s.heap rfl
  have e2 : ((s.heap.push PySem.W.emptyDict).push (PySem.W.instObj C s.heap.objs.size)).get? (s.heap.objs.size + 1) = some (PySem.W.instObj C s.heap.objs.size) := by
    have := Heap.get?_push_size (s.heap.push PySem.W.emptyDict) (o := PySem.W.instObj C s.heap.objs.size) rfl
    rwa [Heap.size_push] at this
  have e3 : (s.heap.push PySem.W.emptyDict).Ns s.heap.objs.size (fun _ => none) := ⟨PySem.W.emptyDict, #[], _, e1, rfl, (fun e he => absurd he (by simp)), fun _ => rfl⟩
  have I1 := I.laid (a := s.heap.objs.size) (o := .own (s.heap.objs.size + 1)) (h' := s.heap.push PySem.W.emptyDict) (t' := s.toks) (fun b u q => Heap.get?_push_of_some _ q) (Nat.le_refl _) ⟨_, e1⟩
  refine I1.laid (a := s.heap.objs.size + 1) (o := .ins C s.heap.objs.size []) (t' := s.toks) (fun b u q => Heap.get?_push_of_some _ q) (Nat.le_of_eq (Heap.size_push _ _)) ?_
  have ne : s.heap.objs.size ≠ s.heap.objs.size + 1 := Nat.ne_of_lt (Nat.lt_succ_self _)
  refine ⟨by rw [upd_ne ne, upd_same], Nat.zero_le _, ne, e2, fun _ => none, (Heap.Ns1.of_empty e3).at fun o q => Heap.get?_push_of_some _ q, fun _ => True.intro, fun y hy => absurd rfl hy⟩

/-- e.f where nothing but the object is asked: through attributeBase (super) and the last hold -/
theorem attr_of {prog : Program} {w : World} {env : Env} {e : Expr} {f : Str} {pos : Pos} {s : Shared} {Q : Value → Shared → Prop} (hb : attributeBase e f env (eval e env) = eval e env)
    (h : wpAny (model prog w) A (eval e env) (fun o s₁ => wpAny (model prog w) A (getAttr o f true) Q E s₁) E s) : wpAny (model prog w) A (eval (.Attribute e f pos) env) Q E s :=
  Attribute_any_ h (by rw [arm_eval_Attribute, hb])
end

/-! ### readings and rules -/
/-- e.f, an attribute of the instance -/
def tFld (K : PySem.W.Frag) (ta : TE) (f : Str) : TE := fun σ H Q => ta σ H fun x H1 => ∃ a C dx fs v, x = .ref a ∧ H1 a = some (.ins C dx fs) ∧ Cls K C ∧ NoAttr K C f ∧ fs.lookup f = some v ∧ Q v H1
/-- e.f, a constant of the class -/
def tCon (K : PySem.W.Frag) (ta : TE) (f : Str) : TE := fun σ H Q => ta σ H fun x H1 => ∃ a C dx fs v u, x = .ref a ∧ H1 a = some (.ins C dx fs) ∧ Cls K C ∧ Con K C f v u ∧ fs.lookup f = none ∧ Q v H1
/-- e.f = value -/
def sFld (K : PySem.W.Frag) (ta tv : TE) (f : Str) : TS := fun D σ H => tv σ H fun y H1 => ta σ H1 fun x H2 => ∃ a C dx fs, x = .ref a ∧ H2 a = some (.ins C dx fs) ∧ Cls K C ∧ NoAttr K C f ∧ fs.length < 1000 ∧
  D.nx σ (upd H2 a (.ins C dx (putF f y fs)))
/-- an augmented operator on two values -/
def InOp (X : Cx) (op : Operator) (rd : V → V → Hp → VK → Prop) : Prop :=
  ∀ (pins : List (Addr × Obj)) (s : Shared) (σ : St) (H : Hp) (x y : V) (u v : Value) (Q : VK), Inv X pins σ H s → RelV x u → RelV y v → rd x y H Q → wpAny (model X.prog X.w) X.A (inplaceOp op u v) (EP X pins σ Q) X.xe s
/-- e.f op= value -/
def sFldAug (K : PySem.W.Frag) (ta tv : TE) (rd : V → V → Hp → VK → Prop) (f : Str) : TS := fun D σ H => ta σ H fun x H1 => ∃ a C dx fs v, x = .ref a ∧ H1 a = some (.ins C dx fs) ∧ Cls K C ∧ NoAttr K C f ∧ fs.lookup f = some v ∧
  tv σ H1 fun y H2 => rd v y H2 fun z H3 => ∃ dx' fs', H3 a = some (.ins C dx' fs') ∧ fs'.length < 1000 ∧ D.nx σ (upd H3 a (.ins C dx' (putF f z fs')))

section
variable {X : Cx} {o e value : Expr} {f : Str} {pos pos' tpos : Pos} {ta tv : TE}
theorem pe_fld (he : PE X e ta) (hb : attributeBase e f X.env (eval e X.env) = eval e X.env) : PE X (.Attribute e f pos) (tFld X.K ta f) := by
  intro pins s σ H Q I h
  refine attr_of hb (thn (he pins s σ H _ I h) fun u s1 ⟨x, H1, I1, rx, a, C, dx, fs, v, ex, ea, c, n, l, q⟩ => ?_)
  subst ex
  obtain rfl : u = Value.ref a := rx
  exact getattr_ok I1 ea c n l fun u' s2 I2 ru => ⟨v, H1, I2, ru, q⟩
theorem ps_fld (ha : PE X o ta) (hv : PE X value tv) (hs : swapsWith value (some (.Attribute o f pos')) pos.line X.env = pure false) : PS X (.Assign [.Attribute o f pos'] value pos) (sFld X.K ta tv f) := by
  intro pins s σ H D I h
  refine plainObj_wpAny_Assign_Attribute (thn (hv pins s σ H _ I h) fun u s1 ⟨y, H1, I1, ry, q⟩ => thn (ha pins s1 σ H1 _ I1 q) fun ov s2 ⟨x, H2, I2, rx, a, C, dx, fs, ex, ea, c, n, l, q2⟩ => ?_) hs
  subst ex
  obtain rfl : ov = Value.ref a := rx
  exact setattr_ok I2 ea c n l ry fun s3 I3 => ⟨σ, _, I3, q2⟩
theorem ps_fldaug {op : Operator} {rd : V → V → Hp → VK → Prop} (ha : PE X o ta) (hv : PE X value tv) (hop : InOp X op rd) : PS X (.AugAssign (.Attribute o f tpos) op value pos) (sFldAug X.K ta tv rd f) := by
  intro pins s σ H D I h
  refine wpAny_AugAssign_AttributeAny (thn (ha pins s σ H _ I h) fun ov s1 ⟨x, H1, I1, rx, a, C, dx, fs, v, ex, ea, c, n, l, q⟩ => ?_)
  subst ex
  obtain rfl : ov = Value.ref a := rx
  refine getattr_ok I1 ea c n l fun u s2 I2 ru => thn (hv pins s2 σ H1 _ I2 q) fun w3 s3 ⟨y, H2, I3, ry, q3⟩ => thn (hop pins s3 σ H2 v y u w3 _ I3 ru ry q3) fun w4 s4 ⟨z, H3, I4, rz, dx', fs', ea', l', q4⟩ => ?_
  exact setattr_ok I4 ea' c n l' rz fun s5 I5 => ⟨σ, _, I5, q4⟩
def rAdd : V → V → Hp → VK → Prop := fun x y H Q => ∃ i j, x = .int i ∧ y = .int j ∧ Q (.int (i + j)) H
def rSub : V → V → Hp → VK → Prop := fun x y H Q => ∃ i j, x = .int i ∧ y = .int j ∧ Q (.int (i - j)) H
theorem in_add : InOp X .Add rAdd := by
  rintro pins s σ H x y u v Q I rx ry ⟨i, j, rfl, rfl, q⟩
  obtain ⟨t, rfl⟩ := (show ∃ t, u = Value.int i t from rx)
  obtain ⟨t', rfl⟩ := (show ∃ t', v = Value.int j t' from ry)
  exact PyProof.Rows.iadd_int ⟨.int (i + j), H, I.tok _, ⟨_, rfl⟩, q⟩
/-- what is between an instance and its method: the tree of a method call -/
theorem methcall_of {pl : Sem Bool} {m : Str} {apos : Pos} {args : List Expr} {pins : List (Addr × Obj)} {s : Shared} {σ : St} {H : Hp} {Q : Value → Shared → Prop} {te : TE} (he : PE X e te) (I : Inv X pins σ H s)
    (h : te σ H fun x H1 => ∃ a C dx fs g, x = .ref a ∧ H1 a = some (.ins C dx fs) ∧ Cls X.K C ∧ Meth X.K C m g ∧ fs.lookup m = none ∧
      ∀ s1, Inv X pins σ H1 s1 → wpAny (model X.prog X.w) X.A (callWith pos (.ref g) [.ref a] (backTo pos (starEach args X.env)) (backToKw pos (keywordEach [] X.env))) Q X.xe s1)
    (ht : eval (.Call (.Attribute e m apos) args [] pos) X.env = (do
      let ov ← eval e X.env
      standAt apos.atName
      let (f, first) ← holding [ov] (getMethod ov m pl)
      callWith pos f first (backTo pos (starEach args X.env)) (backToKw pos (keywordEach [] X.env)))) :
    wpAny (model X.prog X.w) X.A (eval (.Call (.Attribute e m apos) args [] pos) X.env) Q X.xe s := by
  refine PySem.W.methodCall_KW (pl := pl) (thn (he pins s σ H _ I h) fun u s1 ⟨x, H1, I1, rx, a, C, dx, fs, g, ex, ea, c, k, l, q⟩ => ?_) ht
  subst ex
  obtain rfl : u = Value.ref a := rx
  exact getmeth_ok I1 ea c k l (q s1 I1)
end

/-! ### isinstance -/
section
variable {X : Cx} {pins : List (Addr × Obj)} {σ : St} {H : Hp} {s : Shared} {A : Around} {E : Value → Shared → Prop} {Q : Value → Shared → Prop} {c : Value} {b : Bool}
/-- the type of a value, as the fragment's deciders take it; for an instance its class -/
inductive TyOf (K : PySem.W.Frag) (H : Hp) : V → Value → Prop where
  | non : TyOf K H .non (.type "NoneType")
  | bl (x : Bool) : TyOf K H (.bl x) (.type "bool")
  | int (i : Int) : TyOf K H (.int i) (.type "int")
  | str (x : Str) : TyOf K H (.str x) (.type "str")
  | flt (x : UInt64) : TyOf K H (.flt x) (.type "float")
  | lst {a : Addr} {xs : List V} (e : H a = some (.lst xs)) : TyOf K H (.ref a) (.type "list")
  | frz {a : Addr} {o : Obj} {xs : List V} (e : H a = some (.frz o (.lst xs))) : TyOf K H (.ref a) (.type "list")
  | tup {a : Addr} {xs : List V} (e : H a = some (.tup xs)) : TyOf K H (.ref a) (.type "tuple")
  | dK {a : Addr} {kvs : List (Key × V)} (e : H a = some (.dK kvs)) : TyOf K H (.ref a) (.type "dict")
  | dT {a : Addr} {kvs : List (List Key × V)} (e : H a = some (.dT kvs)) : TyOf K H (.ref a) (.type "dict")
  | ins {a C dx : Addr} {fs : List (Str × V)} (e : H a = some (.ins C dx fs)) (cl : Cls K C) (ha : PySem.W.findIn K (.ref C) "__class__" = some (some (.builtin "object.__class__")))
      (hn : PySem.W.specialIn K (.builtin "object.__class__") "__get__" = some (some (.builtin "getset_descriptor.__get__"))) (htk : PySem.W.takesIn K (.builtin "object.__class__") = some true)
      (hm : PySem.W.mroIn K C (.type "object") = some true) : TyOf K H (.ref a) (.ref C)
end
end L2

namespace L2
open PySem PySem.Spec PyProof.Rows

/-! ### room -/
structure Room (k : Nat) (A : Around) : Prop where
  hd : A.handled = none
  dp : A.depth + 3 * k + 5 < recursionLimit
  un : A.units + 16 * k + 200 < cLine
theorem Room.mono {j k : Nat} {A : Around} (r : Room k A) (h : j ≤ k) : Room j A := ⟨r.hd, by have := r.dp; omega, by have := r.un; omega⟩
theorem Room.deeper {k : Nat} {A : Around} (r : Room (k + 1) A) (env : Env) : Room k (A.deeper env) :=
  ⟨r.hd, by have := r.dp; show A.depth + 1 + 3 * k + 5 < _; omega, by have := r.un; show A.units + 3 + 16 * k + 200 < _; omega⟩
theorem make_depth {A : Around} {C : Addr} {us : List Value} {kw : List (Str × Value)} : (A.under (.builtin "type.__call__" ⟨.ref C :: us, kw⟩)).depth = A.depth + 1 := by
  first | rfl | simp [Around.under, Code.weight, Code.isCreation, Code.isGuard, Code.isCaller, Code.frames, Code.isFrame, guardIds]
theorem make_units {A : Around} {C : Addr} {us : List Value} {kw : List (Str × Value)} : (A.under (.builtin "type.__call__" ⟨.ref C :: us, kw⟩)).units = A.units + 1 := by
  first | rfl | simp [Around.under, Code.cUnits, Code.frames, Code.isFrame]
theorem Room.make {k : Nat} {A : Around} (r : Room (k + 1) A) (C : Addr) (us : List Value) (kw : List (Str × Value)) : Room k (A.under (.builtin "type.__call__" ⟨.ref C :: us, kw⟩)) :=
  ⟨r.hd, by have := r.dp; rw [make_depth]; omega, by have := r.un; rw [make_units]; omega⟩
theorem Room.depth {k : Nat} {A : Around} (r : Room k A) : A.depth < recursionLimit := by have := r.dp; omega
/-! ### argument lists and displays -/
def tNil : TA := fun _ H Q => Q [] H
def tCons (ta : TE) (tr : TA) : TA := fun σ H Q => ta σ H fun x H1 => tr σ H1 fun xs H2 => Q (x :: xs) H2
section
variable {X : Cx} {e : Expr} {es : List Expr} {te : TE} {t : TA} {pos : Pos}
theorem pa_nil : PA X [] tNil := fun _ _ _ _ H Q I h => Calls.spliced_nil ⟨[], H, I, .nil, h⟩
theorem pa_cons (ha : PE X e te) (hr : PA X es t) (hs : starEach (e :: es) X.env = (false, eval e X.env) :: starEach es X.env := by rfl) : PA X (e :: es) (tCons te t) := by
  intro pos pins s σ H Q I h
  rw [hs]
  show wpAny _ _ (spliced ((false, eval e X.env) :: backTo pos (starEach es X.env))) _ _ s
  refine Calls.spliced_cons (thn (ha pins s σ H _ I h) fun u s1 ⟨x, H1, I1, r1, q1⟩ => ?_)
  exact thn (hr pos pins s1 σ H1 _ I1 q1) fun us s2 ⟨xs, H2, I2, r2, q2⟩ => ⟨x :: xs, H2, I2, .cons r1 r2, q2⟩

/-- a tuple, a list of written items -/
def tTup (t : TA) : TE := fun σ H Q => t σ H fun xs H1 => xs.length ≤ sizeLine ∧ ∀ p, H1 p = none → Q (.ref p) (upd H1 p (.tup xs))
def tLst (t : TA) : TE := fun σ H Q => t σ H fun xs H1 => xs.length ≤ sizeLine ∧ ∀ p, H1 p = none → Q (.ref p) (upd H1 p (.lst xs))
theorem pe_tup {x1} (h : PA X es t) : PE X (.Tuple es x1 pos) (tTup t) := by
  intro pins s σ H Q I hq
  refine wpAny_Tuple_spliced (thn (h pos pins s σ H _ I hq) fun us s1 ⟨xs, H1, I1, r, z, q⟩ => ⟨by rw [← r.length]; exact z, ?_⟩)
  have hf : H1 s1.heap.objs.size = none := I1.hok.fresh (Nat.le_refl _)
  refine ⟨.ref s1.heap.objs.size, upd H1 s1.heap.objs.size (.tup xs), I1.laid (t' := s1.toks) (fun b u e => Heap.get?_push_of_some _ e) (Nat.le_refl _) ?_, rfl, q _ hf⟩
  exact ⟨z, us, r, ⟨_, Heap.get?_push_size _ rfl, rfl, _, rfl⟩⟩
theorem pe_lst (h : PA X es t) : PE X (.List es pos) (tLst t) := by
  intro pins s σ H Q I hq
  refine wpAny_List_spliced (thn (h pos pins s σ H _ I hq) fun us s1 ⟨xs, H1, I1, r, z, q⟩ => ⟨by rw [← r.length]; exact z, ?_⟩)
  have hf : H1 s1.heap.objs.size = none := I1.hok.fresh (Nat.le_refl _)
  refine ⟨.ref s1.heap.objs.size, upd H1 s1.heap.objs.size (.lst xs), I1.laid (t' := s1.toks) (fun b u e => Heap.get?_push_of_some _ e) (Nat.le_refl _) ?_, rfl, q _ hf⟩
  exact ⟨z, us, 0, r, Heap.get?_push_size _ rfl⟩
end

/-! ### what a def promises -/
/-- a def's promise: the bound arguments in the parameters' order, the heap, the wanted end, the wanted exception -/
abbrev Sp := List V → Hp → VK → XK → Prop
/-- how an exception lies behind a call (file 08 gives it): the callers' frames, abstract heap and state ahead of the call, the wish, the exception, the state -/
abbrev CXT := List Env → Hp → Shared → XK → Value → Shared → Prop

/-- the state at a call -/
structure Env0 (P : Program) (w : World) (K : PySem.W.Frag) (mg : Str → Option Value) (base : Heap) (A : Around) (outer : List Env) (s : Shared) (H : Hp) : Prop where
  frames : A.frames = some outer
  mod : Mod K mg base
  bs : ∀ b o, base.get? b = some o → s.heap.get? b = some o ∧ H b = none
  bsz : base.objs.size ≤ s.heap.objs.size
  funs : s.heap.FunFrames base outer
  frf : ∀ b ∈ frs outer, H b = none
  hok : HOk P w H s.heap
  bare : AllBare s.gens
/-- a call's end -/
def CE (outer : List Env) (P : Program) (w : World) (H : Hp) (s : Shared) (Q : VK) (u : Value) (s' : Shared) : Prop :=
  ∃ v H', s'.os = s.os ∧ AllBare s'.gens ∧ Un (frs outer) [] H H' s.heap s'.heap ∧ HOk P w H' s'.heap ∧ RelV v u ∧ Q v H'
def CR (CX : CXT) (outer : List Env) (P : Program) (w : World) (H : Hp) (s : Shared) (Q : VK) (E : XK) (r : Result) (s' : Shared) : Prop :=
  match r with
  | .ok (.ret u) => CE outer P w H s Q u s'
  | .ok _ => False
  | .error e => CX outer H s E e s'
structure FnOk (P : Program) (w : World) (K : PySem.W.Frag) (mg : Str → Option Value) (base : Heap) (CX : CXT) (k : Nat) (f : Addr) (fd : FuncData) (ps : List Str) (sp : Sp) : Prop where
  len : ∀ vs H Q E, sp vs H Q E → vs.length = ps.length
  run : ∀ (A : Around) (outer : List Env) (s : Shared) (H : Hp) (args : Args) (us : List Value) (vs : List V) (Q : VK) (E : XK), Room k A → Env0 P w K mg base A outer s H → BindsTo s fd args (ps.zip us) → Vals vs us → sp vs H Q E →
    codeAny (model P w) A (.call (.ref f) args) (CR CX outer P w H s Q E) s
theorem Env0.make {P : Program} {w : World} {K : PySem.W.Frag} {mg : Str → Option Value} {base : Heap} {A : Around} {outer : List Env} {s : Shared} {H : Hp} (e : Env0 P w K mg base A outer s H) (C : Addr) (us : List Value) (kw : List (Str × Value)) :
    Env0 P w K mg base (A.under (.builtin "type.__call__" ⟨.ref C :: us, kw⟩)) outer s H := ⟨by first | exact e.frames | (simpa [Around.under, Code.envs, Code.isFrame, pushEnvs] using e.frames), e.mod, e.bs, e.bsz, e.funs, e.frf, e.hok, e.bare⟩
section
variable {X : Cx} {pins : List (Addr × Obj)} {σ : St} {H : Hp} {s s' : Shared}
/-- from a body: what a callee wants -/
theorem Inv.env0 (I : Inv X pins σ H s) : Env0 X.prog X.w X.K X.mg X.base X.A X.stack s H :=
  ⟨I.ok.frames, I.ok.mod, I.bs, Nat.le_trans I.ok.bsz I.sz, I.stack, I.stkFree, I.hok, I.bare⟩
/-- behind a call -/
theorem Inv.after {Q : VK} {u : Value} (I : Inv X pins σ H s) (h : CE X.stack X.prog X.w H s Q u s') : EP X pins σ Q u s' := by
  obtain ⟨v, H', os, bare, un, hok, r, q⟩ := h
  obtain ⟨hh, g, d, t, os'⟩ := s'
  obtain rfl : os' = s.os := os
  exact ⟨v, H', I.call (h' := hh) (g' := g) (d' := d) (t' := t) (ch := []) un hok bare (fun b z => absurd z (by simp)), r, q⟩
end

/-! ### calls -/
/-- f(..): the written arguments, then the defaults dvs; E: what is wanted of an exception -/
def tCall (sp : Sp) (dvs : List V) (E : XK) (t : TA) : TE := fun σ H Q => t σ H fun vs H1 => sp (vs ++ dvs) H1 Q E
/-- o.m(..) of an instance of the class at C -/
def tMeth (C : Addr) (m : Str) (sp : Sp) (dvs : List V) (E : XK) (ta : TE) (t : TA) : TE := fun σ H Q => ta σ H fun x H1 => ∃ a dx fs, x = .ref a ∧ H1 a = some (.ins C dx fs) ∧ fs.lookup m = none ∧
  t σ H1 fun vs H2 => sp (x :: (vs ++ dvs)) H2 Q E
/-- C(..): a new instance and its dict, then __init__ -/
def tMake (C : Addr) (sp : Sp) (dvs : List V) (E : XK) (t : TA) : TE := fun σ H Q => t σ H fun vs H1 => ∀ x dx, H1 x = none → H1 dx = none → dx ≠ x →
  sp (.ref x :: (vs ++ dvs)) (upd (upd H1 dx (.own x)) x (.ins C dx [])) (fun v H2 => v = .non ∧ Q (.ref x) H2) E

/-- how the parameters are bound: us the positional arguments, kw the keywords' values by name, ds the defaults that fill up -/
def Binds (K : PySem.W.Frag) (fd : FuncData) (ps : List Str) (ds : List Value) : Prop :=
  ∀ (s : Shared) (us : List Value), K.In s.heap → (us ++ ds).length = ps.length → BindsTo s fd ⟨us, []⟩ (ps.zip (us ++ ds))
/-- every parameter is given -/
theorem Binds.all {K : PySem.W.Frag} {fd : FuncData} {ps : List Str} (h : ∀ us : List Value, us.length = ps.length → bindArgs fd ⟨us, []⟩ = pure (ps.zip us)) : Binds K fd ps [] := fun s us _ hl => by
  rw [List.append_nil] at hl ⊢
  exact .of_eq (h us hl)

/-- an exception of a callee reaches what this body wants of exceptions -/
def Passes (CX : CXT) (X : Cx) (E : XK) : Prop := ∀ (pins : List (Addr × Obj)) (σ : St) (H : Hp) (s : Shared) (e : Value) (s' : Shared), Inv X pins σ H s → CX X.stack H s E e s' → X.xe e s'

section
variable {X : Cx} {CX : CXT} {k : Nat} {f C : Addr} {fd : FuncData} {ps : List Str} {sp : Sp} {dvs : List V} {ds : List Value} {E : XK} {x m : Str} {p pos apos : Pos} {e o : Expr} {es : List Expr} {ta : TE} {t : TA}

/-- the callee runs -/
theorem run_fn {pins : List (Addr × Obj)} {σ : St} {H : Hp} {s : Shared} {Q : VK} {us : List Value} {vs : List V} (F : FnOk X.prog X.w X.K X.mg X.base CX k f fd ps sp) (hr : Room k X.A) (hb : Binds X.K fd ps ds) (hd : Vals dvs ds) (hx : Passes CX X E)
    (I : Inv X pins σ H s) (r : Vals vs us) (h : sp (vs ++ dvs) H Q E) : wpAny (model X.prog X.w) X.A (call (.ref f) us) (EP X pins σ Q) X.xe s := by
  have r2 : Vals (vs ++ dvs) (us ++ ds) := r.append hd
  have hl : (us ++ ds).length = ps.length := by rw [← r2.length]; exact F.len _ _ _ _ h
  refine wpAny_call (codeAny_mono (F.run X.A X.stack s H ⟨us, []⟩ (us ++ ds) (vs ++ dvs) Q E hr I.env0 (hb s us I.kIn hl) r2 h) fun r s' hq => ?_)
  cases r with
  | error e => exact hx pins σ H s e s' I hq
  | ok fl =>
    cases fl with
    | ret u => exact I.after hq
    | next => exact False.elim hq
    | brk => exact False.elim hq
    | cont => exact False.elim hq

theorem pe_call (F : FnOk X.prog X.w X.K X.mg X.base CX k f fd ps sp) (hr : Room k X.A) (hg : Gl X x) (hm : X.mg x = some (.ref f)) (hk : PySem.W.keepIn X.K (.ref f) = true) (hb : Binds X.K fd ps ds) (hd : Vals dvs ds) (hx : Passes CX X E)
    (ha : PA X (e :: es) t) (hdb : (x == ("__debug__" : Str)) = false := by decide) (he : starEach (e :: es) X.env = (false, eval e X.env) :: starEach es X.env := by rfl) (hpl : (backTo pos (starEach es X.env)).any (·.1) = false := by rfl) :
    PE X (.Call (.Name x p) (e :: es) [] pos) (tCall sp dvs E t) := by
  intro pins s σ H Q I h
  refine wpAny_Call_Name_kw (ld_glob I hg hm ?_ hdb)
  refine PySem.W.callWith_K (h₀ := X.base) I.ok.mod.kin hk (thn (ha pos pins s σ H _ I h) fun us s1 ⟨vs, H1, I1, r, q⟩ => ⟨I1.kIn, ?_⟩) he hpl
  exact run_fn F hr hb hd hx I1 r q
/-- o.m(e, ..) -/
theorem pe_meth {pl : Sem Bool} (he : PE X o ta) (c : Cls X.K C) (hm : Meth X.K C m f) (F : FnOk X.prog X.w X.K X.mg X.base CX k f fd ps sp) (hr : Room k X.A) (hb : Binds X.K fd ps ds) (hd : Vals dvs ds) (hx : Passes CX X E) (ha : PA X (e :: es) t)
    (hst : starEach (e :: es) X.env = (false, eval e X.env) :: starEach es X.env := by rfl) (hpl : (backTo pos (starEach es X.env)).any (·.1) = false := by rfl)
    (ht : eval (.Call (.Attribute o m apos) (e :: es) [] pos) X.env = (do
      let ov ← eval o X.env
      standAt apos.atName
      let (f, first) ← holding [ov] (getMethod ov m pl)
      callWith pos f first (backTo pos (starEach (e :: es) X.env)) (backToKw pos (keywordEach [] X.env))) := by rfl) :
    PE X (.Call (.Attribute o m apos) (e :: es) [] pos) (tMeth C m sp dvs E ta t) := by
  intro pins s σ H Q I h
  refine PySem.W.methodCall_KW (pl := pl) (thn (he pins s σ H _ I h) fun u s1 ⟨x, H1, I1, rx, a, dx, fs, ex, ea, l, q⟩ => ?_) ht
  subst ex
  obtain rfl : u = Value.ref a := rx
  refine getmeth_ok I1 ea c hm l ?_
  refine PySem.W.callWith_K (first := [.ref a]) (h₀ := X.base) I.ok.mod.kin hm.kp (thn (ha pos pins s1 σ H1 _ I1 q) fun us s2 ⟨vs, H2, I2, r, q2⟩ => ⟨I2.kIn, ?_⟩) hst hpl
  exact run_fn (us := .ref a :: us) (vs := .ref a :: vs) F hr hb hd hx I2 (.cons rfl r) q2
/-- o.m() -/
theorem pe_meth0 {pl : Sem Bool} (he : PE X o ta) (c : Cls X.K C) (hm : Meth X.K C m f) (F : FnOk X.prog X.w X.K X.mg X.base CX k f fd ps sp) (hr : Room k X.A) (hb : Binds X.K fd ps ds) (hd : Vals dvs ds) (hx : Passes CX X E)
    (ht : eval (.Call (.Attribute o m apos) [] [] pos) X.env = (do
      let ov ← eval o X.env
      standAt apos.atName
      let (f, first) ← holding [ov] (getMethod ov m pl)
      callWith pos f first (backTo pos (starEach [] X.env)) (backToKw pos (keywordEach [] X.env))) := by rfl) :
    PE X (.Call (.Attribute o m apos) [] [] pos) (tMeth C m sp dvs E ta tNil) := by
  intro pins s σ H Q I h
  refine PySem.W.methodCall_KW (pl := pl) (thn (he pins s σ H _ I h) fun u s1 ⟨x, H1, I1, rx, a, dx, fs, ex, ea, l, q⟩ => ?_) ht
  subst ex
  obtain rfl : u = Value.ref a := rx
  refine getmeth_ok I1 ea c hm l ?_
  exact PySem.W.callWith_K0 (first := [.ref a]) I1.kIn hm.kp (run_fn (us := [.ref a]) (vs := [.ref a]) F hr hb hd hx I1 (.cons rfl .nil) q)

/-- what a class must have to be made -/
structure Mk (K : PySem.W.Frag) (C f : Addr) : Prop where
  makes : PySem.W.makesIn K C = true
  init : PySem.W.findIn K (.ref C) "__init__" = some (some (.ref f))
  fn : PySem.W.isFn K (.ref f) = true
  kp : PySem.W.keepIn K (.ref C) = true

theorem run_make {pins : List (Addr × Obj)} {σ : St} {H : Hp} {s : Shared} {Q : VK} {us : List Value} {vs : List V} (M : Mk X.K C f) (F : FnOk X.prog X.w X.K X.mg X.base CX k f fd ps sp) (hr : Room (k + 1) X.A) (hb : Binds X.K fd ps ds) (hd : Vals dvs ds)
    (hx : Passes CX X E) (I : Inv X pins σ H s) (r : Vals vs us)
    (h : ∀ x dx, H x = none → H dx = none → dx ≠ x → sp (.ref x :: (vs ++ dvs)) (upd (upd H dx (.own x)) x (.ins C dx [])) (fun v H2 => v = .non ∧ Q (.ref x) H2) E) :
    wpAny (model X.prog X.w) X.A (call (.ref C) us) (EP X pins σ Q) X.xe s := by
  have hq := h (s.heap.objs.size + 1) s.heap.objs.size (I.hok.fresh (Nat.le_succ _)) (I.hok.fresh (Nat.le_refl _)) (Nat.ne_of_lt (Nat.lt_succ_self _))
  have I2 := Inv.made (C := C) I
  have r2 : Vals (V.ref (s.heap.objs.size + 1) :: (vs ++ dvs)) (Value.ref (s.heap.objs.size + 1) :: (us ++ ds)) := .cons rfl (r.append hd)
  have hl : (Value.ref (s.heap.objs.size + 1) :: us ++ ds).length = ps.length := by
    have e := r2.length
    rw [F.len _ _ _ _ hq] at e
    exact e.symm
  refine wpAny_call (make_map (f := f) I.kIn M.makes M.init (beq_iff_eq.mp M.fn) (codeAny_mono (F.run _ X.stack _ _ ⟨Value.ref (s.heap.objs.size + 1) :: us, []⟩ (Value.ref (s.heap.objs.size + 1) :: (us ++ ds)) _ _ E (hr.make C us [])
    (I2.env0.make C us []) (hb _ (Value.ref (s.heap.objs.size + 1) :: us) I2.kIn hl) r2 hq) fun r s' hq' => ?_))
  cases r with
  | error e => exact hx pins σ _ _ e s' I2 hq'
  | ok fl =>
    cases fl with
    | ret u =>
      obtain ⟨v, H', I3, rv, ev, q3⟩ := I2.after hq'
      subst ev
      exact ⟨rv, ⟨V.ref (s.heap.objs.size + 1), H', I3, rfl, q3⟩⟩
    | next => exact False.elim hq'
    | brk => exact False.elim hq'
    | cont => exact False.elim hq'
theorem pe_make (M : Mk X.K C f) (F : FnOk X.prog X.w X.K X.mg X.base CX k f fd ps sp) (hr : Room (k + 1) X.A) (hg : Gl X x) (hm : X.mg x = some (.ref C)) (hb : Binds X.K fd ps ds) (hd : Vals dvs ds) (hx : Passes CX X E)
    (ha : PA X (e :: es) t) (hdb : (x == ("__debug__" : Str)) = false := by decide) (he : starEach (e :: es) X.env = (false, eval e X.env) :: starEach es X.env := by rfl) (hpl : (backTo pos (starEach es X.env)).any (·.1) = false := by rfl) :
    PE X (.Call (.Name x p) (e :: es) [] pos) (tMake C sp dvs E t) := by
  intro pins s σ H Q I h
  refine wpAny_Call_Name_kw (ld_glob I hg hm ?_ hdb)
  refine PySem.W.callWith_K (h₀ := X.base) I.ok.mod.kin M.kp (thn (ha pos pins s σ H _ I h) fun us s1 ⟨vs, H1, I1, r, q⟩ => ⟨I1.kIn, ?_⟩) he hpl
  exact run_make M F hr hb hd hx I1 r q
theorem pe_make0 (M : Mk X.K C f) (F : FnOk X.prog X.w X.K X.mg X.base CX k f fd ps sp) (hr : Room (k + 1) X.A) (hg : Gl X x) (hm : X.mg x = some (.ref C)) (hb : Binds X.K fd ps ds) (hd : Vals dvs ds) (hx : Passes CX X E)
    (hdb : (x == ("__debug__" : Str)) = false := by decide) : PE X (.Call (.Name x p) [] [] pos) (tMake C sp dvs E tNil) := by
  intro pins s σ H Q I h
  refine wpAny_Call_Name_kw (ld_glob I hg hm ?_ hdb)
  exact PySem.W.callWith_K0 I.kIn M.kp (run_make (us := []) M F hr hb hd hx I .nil h)
end

/-! ### keywords -/
/-- the values of the keywords, from the left -/
def PK (X : Cx) (kws : List Keyword) (t : TA) : Prop :=
  ∀ (pos : Pos) (pins : List (Addr × Obj)) (s : Shared) (σ : St) (H : Hp) (Q : List V → Hp → Prop), Inv X pins σ H s → t σ H Q → wpAny (model X.prog X.w) X.A (evalAll ((backToKw pos (keywordEach kws X.env)).map (·.2))) (AP X pins σ Q) X.xe s
section
variable {X : Cx} {CX : CXT} {k : Nat} {f C : Addr} {fd : FuncData} {ps ks : List Str} {sp : Sp} {E : XK} {x m : Str} {p pos apos kpos : Pos} {e o : Expr} {es : List Expr} {kws : List Keyword} {te ta : TE} {t tk : TA} {nm : Option Str}
/-- how a call with keywords binds: g puts the positional values us and the keywords' values ws (names ks) in the parameters' order, defaults among them -/
structure KBinds (K : PySem.W.Frag) (fd : FuncData) (ps ks : List Str) (g : List Value → List Value → List Value) (gV : List V → List V → List V) : Prop where
  to : ∀ (s : Shared) (us ws : List Value), K.In s.heap → (g us ws).length = ps.length → BindsTo s fd ⟨us, ks.zip ws⟩ (ps.zip (g us ws))
  rel : ∀ {vs : List V} {us : List Value} {zs : List V} {ws : List Value}, Vals vs us → Vals zs ws → Vals (gV vs zs) (g us ws)
def tCallK (sp : Sp) (gV : List V → List V → List V) (E : XK) (t tk : TA) : TE := fun σ H Q => t σ H fun vs H1 => tk σ H1 fun zs H2 => sp (gV vs zs) H2 Q E
variable {g : List Value → List Value → List Value} {gV : List V → List V → List V}
end

/-! ### a def's body keeps its promise -/
/-- names: the parameters first -/
structure FnScope (N P : List Str) (sc : Scope) : Prop where
  kind : sc.kind = .function
  co : sc.isCoroutine = false
  gen : sc.isGenerator = false
  nd : N.Nodup
  pre : N.take P.length = P
  par : ∀ x ∈ P, sc.names.lookup x = some .local ∨ sc.names.lookup x = some .cell
  nofree : ∀ y ∈ sc.names, y.2 ≠ .free

theorem bindL_out {kindOf : Str → Option NameKind} {x : Str} : ∀ {binds : List (Str × Value)} {m : Str → Option Value}, (∀ v, (x, v) ∉ binds) → bindL kindOf binds m x = m x
  | [], _, _ => rfl
  | (n, v) :: r, m, h => by
    unfold bindL
    rw [bindL_out fun w hw => h w (List.mem_cons_of_mem _ hw)]
    split
    · have : x ≠ n := by rintro rfl; exact h v List.mem_cons_self
      simp [this]
    · rfl
theorem bindC_out {kindOf : Str → Option NameKind} {x : Str} : ∀ {binds : List (Str × Value)} {m : Str → Option Value}, (∀ v, (x, v) ∉ binds) → bindC kindOf binds m x = m x
  | [], _, _ => rfl
  | (n, v) :: r, m, h => by
    unfold bindC
    rw [bindC_out fun w hw => h w (List.mem_cons_of_mem _ hw)]
    split
    · rfl
    · have : x ≠ n := by rintro rfl; exact h v List.mem_cons_self
      simp [this]
theorem bindL_get {kindOf : Str → Option NameKind} {x : Str} {v : Value} : ∀ {P : List Str} {vs : List Value} {i : Nat} {m : Str → Option Value}, P.Nodup → P[i]? = some x → vs[i]? = some v → kindOf x = some .local →
    bindL kindOf (P.zip vs) m x = some v
  | [], _, _, _, _, h, _, _ => by simp at h
  | _ :: _, [], _, _, _, _, h, _ => by simp at h
  | p :: P, w :: vs, 0, m, nd, h1, h2, hk => by
    simp at h1 h2; subst h1; subst h2
    show bindL kindOf ((p, w) :: P.zip vs) m p = _
    unfold bindL
    rw [bindL_out fun v hv => (List.nodup_cons.mp nd).1 (List.of_mem_zip hv).1, if_pos hk]
    simp
  | p :: P, w :: vs, i + 1, m, nd, h1, h2, hk => by
    show bindL kindOf ((p, w) :: P.zip vs) m x = _
    unfold bindL
    exact bindL_get (i := i) (List.nodup_cons.mp nd).2 (by simpa using h1) (by simpa using h2) hk
theorem bindC_get {kindOf : Str → Option NameKind} {x : Str} {v : Value} : ∀ {P : List Str} {vs : List Value} {i : Nat} {m : Str → Option Value}, P.Nodup → P[i]? = some x → vs[i]? = some v → kindOf x ≠ some .local →
    bindC kindOf (P.zip vs) m x = some v
  | [], _, _, _, _, h, _, _ => by simp at h
  | _ :: _, [], _, _, _, _, h, _ => by simp at h
  | p :: P, w :: vs, 0, m, nd, h1, h2, hk => by
    simp at h1 h2; subst h1; subst h2
    show bindC kindOf ((p, w) :: P.zip vs) m p = _
    unfold bindC
    rw [bindC_out fun v hv => (List.nodup_cons.mp nd).1 (List.of_mem_zip hv).1, if_neg hk]
    simp
  | p :: P, w :: vs, i + 1, m, nd, h1, h2, hk => by
    show bindC kindOf ((p, w) :: P.zip vs) m x = _
    unfold bindC
    exact bindC_get (i := i) (List.nodup_cons.mp nd).2 (by simpa using h1) (by simpa using h2) hk

/-- the names' values at the entry -/
def start (N : List Str) (vs : List V) : St := vs.map some ++ List.replicate (N.length - vs.length) none

/-- the context of a def's body, at its entry; an exception leaves the frame, then lies as CX says -/
def cxOf (CX : CXT) (P : Program) (w : World) (K : PySem.W.Frag) (mg : Str → Option Value) (base : Heap) (N : List Str) (qual : Str) (scope : Scope) (f : Addr) (cd : Value) (A : Around) (outer : List Env) (s : Shared) (H : Hp) (E : XK) : Cx where
  prog := P
  w := w
  K := K
  mg := mg
  base := base
  A := A.deeper (envOfC qual scope s.heap.objs.size f cd)
  N := N
  s_0 := s
  H_0 := H
  env := envOfC qual scope s.heap.objs.size f cd
  outer := outer
  stack := envOfC qual scope s.heap.objs.size f cd :: outer
  ex := []
  calm := true
  fn := fun _ => true
  pn := []
  xe := fun e s' => wpAny (model P w) (A.deeper (envOfC qual scope s.heap.objs.size f cd)) (leaving (envOfC qual scope s.heap.objs.size f cd) e) (fun _ s'' => CX outer H s E e s'') (fun e' s'' => CX outer H s E e' s'') s'

theorem cell_has {sc : Scope} {n : Nat} {x : Str} (h : sc.names.lookup x = some .cell) : ∃ c, (cellsFrom n sc.names []).lookup x = some c := by
  have q := PySem.W.cellsFrom_some sc.names n [] (.inl h)
  exact Option.isSome_iff_exists.mp q

theorem inv_start {CX : CXT} {P : Program} {w : World} {K : PySem.W.Frag} {mg : Str → Option Value} {base : Heap} {N ps : List Str} {qual : Str} {scope : Scope} {f : Addr} {cd : Value} {A : Around} {outer : List Env} {s s1 : Shared} {H : Hp} {E : XK} {us : List Value} {vs : List V}
    (S : FnScope N ps scope) (hd : A.handled = none) (e0 : Env0 P w K mg base A outer s H) (hl : vs.length = ps.length) (r : Vals vs us)
    (x : InCallC s s.heap.objs.size (bindL (envOfC qual scope s.heap.objs.size f cd).kindOf (ps.zip us) fun _ => none) (cellsFrom (s.heap.objs.size + 1) scope.names []) (bindC (envOfC qual scope s.heap.objs.size f cd).kindOf (ps.zip us) fun _ => none) s1) :
    Inv (cxOf CX P w K mg base N qual scope f cd A outer s H E) [] (start N vs) H s1 := by
  have hpl : ps.length ≤ N.length := by have := congrArg List.length S.pre; rw [List.length_take] at this; omega
  obtain ⟨h1, tk, rfl, hk⟩ := x.done
  have noA : ∀ b : Addr, b ∉ (cxOf CX P w K mg base N qual scope f cd A outer s H E).ex := fun b z => absurd (show b ∈ ([] : List Addr) from z) (by simp)
  refine ⟨⟨e0.mod, S.kind, rfl, rfl, Nat.le_refl _, fun y z c h1 h2 => ?_, fun y hy => ?_, fun y c _ h => ?_, fun _ => hd, Around.frames_deeper e0.frames, .inr ⟨rfl, rfl⟩, fun b z => absurd z (noA b), e0.bs, e0.bsz, fun b _ _ => noA b, fun b z => absurd z (noA b), e0.funs, e0.frf⟩,
    rfl, e0.bare, Un.kept hk, ⟨_, x.toInCall.ns, fun i y v h1 h2 h3 => ?_⟩, fun y c h => ⟨_, x.cell y c h⟩, e0.hok.fresh (Nat.le_refl _), fun y c h => ?_, fun p hp => absurd (show p ∈ ([] : List (Addr × Obj)) from hp) (by simp), e0.hok.kept hk, ?_⟩
  · exact name_of_addr x.apart (PySem.mem_of_lookup h1) (PySem.mem_of_lookup h2)
  · have hy : scope.names.lookup y = some .cell ∨ scope.names.lookup y = some .free := hy
    rcases hy with hy | hy
    · exact cell_has hy
    · exact absurd rfl (S.nofree _ (PySem.mem_of_lookup hy))
  · exact Nat.le_of_lt (x.above y c (PySem.mem_of_lookup h))
  · have hi : i < vs.length := by
      unfold start at h2
      by_cases hi : i < vs.length
      · exact hi
      · rw [List.getElem?_append_right (by simpa using hi)] at h2
        rw [List.getElem?_replicate] at h2
        split at h2 <;> cases h2
    have ha : vs[i]? = some v := by
      unfold start at h2
      rw [List.getElem?_append_left (by simpa using hi), List.getElem?_map] at h2
      cases e : vs[i]? with
      | none => rw [e] at h2; cases h2
      | some a => rw [e] at h2; cases h2; rfl
    obtain ⟨u, hu, rv⟩ := r.get ha
    have hp : ps[i]? = some y := by
      rw [← S.pre, List.getElem?_take_of_lt (by omega)]; exact h1
    have ndP : ps.Nodup := by rw [← S.pre]; exact S.nd.sublist (List.take_sublist _ _)
    refine ⟨u, rv, ?_⟩
    rcases S.par y (List.mem_of_getElem? hp) with k | k
    · exact .inl ⟨k, bindL_get ndP hp hu k⟩
    · obtain ⟨c, e⟩ := cell_has (n := s.heap.objs.size + 1) k
      refine .inr ⟨.inl k, c, e, ?_⟩
      have q := x.cell y c e
      rw [bindC_get ndP hp hu (by show scope.names.lookup y ≠ _; rw [k]; decide)] at q
      exact q
  · exact e0.hok.fresh (Nat.le_of_lt (x.above y c (PySem.mem_of_lookup h)))
  · unfold start
    show _ = N.length
    rw [List.length_append, List.length_map, List.length_replicate]
    omega

/-- THE RULE: a def (or a method) of the text, by its body. The body's reading t is chosen for each entry; it is run at the parameters' values -/
theorem fn_of {CX : CXT} {P : Program} {w : World} {K : PySem.W.Frag} {mg : Str → Option Value} {base : Heap} {k : Nat} {f : Addr} {name qual : Str} {params : Arguments} {body : List Stmt} {scope : Scope} {dV kV doc pm cdv ct oc : Value} {an od : Option Addr}
    {osl : Array (Option Value)} {N ps : List Str} {sp : Sp} (lk : K.lookup f = some ⟨oc, od, .func (PySem.W.fnOf name qual params body scope dV kV doc pm an cdv ct), osl⟩) (hcd : PySem.W.codeIn K cdv qual = true) (S : FnScope N ps scope)
    (len : ∀ vs H Q E, sp vs H Q E → vs.length = ps.length)
    (hbody : ∀ (A : Around) (outer : List Env) (s : Shared) (H : Hp) (vs : List V) (Q : VK) (E : XK), Room k (A.deeper (envOfC qual scope s.heap.objs.size f cdv)) → sp vs H Q E →
      ∃ t, PSs (cxOf CX P w K mg base N qual scope f cdv A outer s H E) body t ∧ t { nx := fun _ H' => Q .non H', rt := Q } (start N vs) H) :
    FnOk P w K mg base CX (k + 1) f (PySem.W.fnOf name qual params body scope dV kV doc pm an cdv ct) ps sp := by
  refine ⟨len, fun A outer s H args us vs Q E hr e0 hb r hsp => ?_⟩
  have hl := len _ _ _ _ hsp
  have KX : K.In s.heap := e0.mod.kin.keeps fun b o e => (e0.bs b o e).1
  have lim : s.heap.NoLimit := e0.mod.nolimit.keeps fun b o e => (e0.bs b o e).1
  have hkind : ∀ y ∈ ps.zip us, scope.names.lookup y.1 = some .local ∨ (scope.names.lookup y.1 = some .cell ∧ ((cellsFrom (s.heap.objs.size + 1) scope.names []).lookup y.1).isSome = true) := fun ⟨n, v⟩ hy => by
    rcases S.par n (List.of_mem_zip hy).1 with q | q
    · exact .inl q
    · exact .inr ⟨q, PySem.W.cellsFrom_some _ _ _ (.inl q)⟩
  refine codeAny_call_function hr.depth (KX _ _ lk) rfl S.co S.gen rfl (PySem.W.codeRec_of KX hcd) (hb _ _ _ _ ?_)
  refine wpAny_newFunctionEnv_cells S.kind hkind fun env he s1 x => ?_
  subst he
  refine ⟨lim.keeps x.toInCall.keep, codeAny_func ?_⟩
  obtain ⟨t, ht, hq⟩ := hbody A outer s H vs Q E (hr.deeper _) hsp
  have I : Inv (cxOf CX P w K mg base N qual scope f cdv A outer s H E) [] (start N vs) H s1 := inv_start S hr.hd e0 hl r x
  refine wpAny_mono (ht [] s1 (start N vs) H _ I hq) (fun fl s' hs => ?_) fun e s' hs => hs
  have fin : ∀ {σ' : St} {H' : Hp} {v : V} {u : Value}, Inv (cxOf CX P w K mg base N qual scope f cdv A outer s H E) [] σ' H' s' → RelV v u → Q v H' → CE outer P w H s Q u s' :=
    fun {σ' H' v u} J rv q => ⟨v, H', J.os, J.bare, J.base, J.hok, rv, q⟩
  cases fl with
  | ret u =>
    obtain ⟨v, σ', H', J, rv, q⟩ := hs
    exact fin J rv q
  | next =>
    obtain ⟨σ', H', J, q⟩ := hs
    exact fin (v := V.non) (u := Value.none) J rfl q
  | brk =>
    obtain ⟨_, _, _, q⟩ := hs
    exact False.elim q
  | cont =>
    obtain ⟨_, _, _, q⟩ := hs
    exact False.elim q
end L2

namespace L2
open PySem PySem.Spec PyProof.Rows
section
variable {X : Cx} {x : Str} {p pos : Pos} {e : Expr} {es : List Expr} {t : TA} {id T : String} {r : List V → Hp → VK → Prop}

def tCB (r : List V → Hp → VK → Prop) (t : TA) : TE := fun σ H Q => t σ H fun vs H1 => r vs H1 Q
/-- f(e, ..), f a built-in function -/
theorem pe_callB (hc : CallR X (.builtin id) r) (hg : Gl X x) (hm : X.mg x = none) (hv : bootBuiltins x = some (.builtin id)) (ha : PA X (e :: es) t) (hn : x ≠ "__name__" := by decide) (hdb : (x == ("__debug__" : Str)) = false := by decide)
    (he : starEach (e :: es) X.env = (false, eval e X.env) :: starEach es X.env := by rfl) (hpl : (backTo pos (starEach es X.env)).any (·.1) = false := by rfl) : PE X (.Call (.Name x p) (e :: es) [] pos) (tCB r t) := by
  intro pins s σ H Q I h
  refine wpAny_Call_Name_kw (ld_blt I hg hm hv ?_ hn hdb)
  exact PyProof.Rows.callWith_builtin1 (thn (ha pos pins s σ H _ I h) fun us s1 ⟨vs, H1, I1, r1, q1⟩ => hc pins s1 σ H1 vs us Q I1 r1 q1) he hpl
end
end L2

namespace HT
open PySem PyProof.Rows

/-- t < u of tuples of ints -/
def lexLt : List Int → List Int → Bool
  | [], [] => false
  | [], _ :: _ => true
  | _ :: _, [] => false
  | x :: xs, y :: ys => if x = y then lexLt xs ys else decide (x < y)
section
open PySem.SeqAt
open PySem.AutoSeq1 (wpAny_loadPart')
open PySem.MeetsSeq PySem.MeetsSeq2 PySem.MeetsSeq3

end

section
variable {prog : Program} {w : World} {A : Around} {E : Value → Shared → Prop} {s : Shared}

/-! ### t[a:b], not the whole -/
/-- a slice's bound as a place among n (d where it is left out) -/
def sIx (n d : Nat) : Option Int → Nat
  | none => d
  | some v => if v < 0 then (v + (n : Int)).toNat else min v.toNat n
theorem sIx_none (n d : Nat) : sIx n d none = d := rfl
theorem sIx_nat (n d k : Nat) : sIx n d (some (k : Int)) = min k n := by
  show (if (k : Int) < 0 then ((k : Int) + (n : Int)).toNat else min (k : Int).toNat n) = min k n
  rw [if_neg (by omega), Int.toNat_natCast]
end
end HT

namespace L2
open PySem PySem.Spec PyProof.Rows

/-! ### the parts of a slice -/
abbrev TO := St → Hp → (Option Int → Hp → Prop) → Prop
/-- a slice's part (left out, or an int) -/
def PO (X : Cx) (e : Option Expr) (t : TO) : Prop :=
  ∀ (pins : List (Addr × Obj)) (s : Shared) (σ : St) (H : Hp) (Q : Option Int → Hp → Prop), Inv X pins σ H s → t σ H Q →
    wpAny (model X.prog X.w) X.A (evalPart e X.env) (fun u s' => ∃ o H', Inv X pins σ H' s' ∧ IsPart u o ∧ Q o H') X.xe s
def tNoPart : TO := fun _ H Q => Q none H
def tPart (t : TE) : TO := fun σ H Q => t σ H fun x H1 => ∃ i, x = .int i ∧ Q (some i) H1

section
variable {X : Cx} {e : Expr} {te : TE} {lo hi : Option Expr} {tl th : TO} {pos p2 : Pos}

theorem po_none : PO X none tNoPart := by
  intro pins s σ H Q I h
  rw [evalPart_none]
  exact wpAny_pure ⟨none, H, I, .none, h⟩
theorem po_some (h : PE X e te) : PO X (some e) (tPart te) := by
  intro pins s σ H Q I hw
  rw [evalPart_some]
  refine thn (h pins s σ H _ I hw) fun u s1 ⟨x, H1, I1, r1, q1⟩ => ?_
  obtain ⟨i, rfl, q⟩ := q1
  obtain ⟨t, rfl⟩ := r1
  exact ⟨some i, H1, I1, .int i t, q⟩

/-- what a slice of a value is, by values: the slice object stands at sl -/
def SlR (X : Cx) (r : V → Option Int → Option Int → Hp → VK → Prop) : Prop :=
  ∀ (pins : List (Addr × Obj)) (s : Shared) (σ : St) (H : Hp) (x : V) (v vl vu : Value) (lo hi : Option Int) (sl : Addr) (Q : VK), Inv X pins σ H s → RelV x v → s.heap.IsSliceOf sl vl vu .none → IsPart vl lo → IsPart vu hi → r x lo hi H Q →
    ∃ T id, typeLookup (.type T) "__getitem__" = pure (some (.builtin id)) ∧ s.TypeIs v T ∧ wpAny (model X.prog X.w) X.A (getItem v (.ref sl)) (EP X pins σ Q) X.xe s
def tSl (r : V → Option Int → Option Int → Hp → VK → Prop) (te : TE) (tl th : TO) : TE := fun σ H Q => te σ H fun x H1 => tl σ H1 fun l H2 => th σ H2 fun u H3 => r x l u H3 Q
/-- a[lo:hi], any a -/
theorem pe_slice {r : V → Option Int → Option Int → Hp → VK → Prop} (hr : SlR X r) (he : PE X e te) (hl : PO X lo tl) (hu : PO X hi th) : PE X (.Subscript e (.Slice lo hi none p2) pos) (tSl r te tl th) := by
  intro pins s σ H Q I h
  refine Subscript_ (thn (he pins s σ H _ I h) fun v s1 ⟨x, H1, I1, r1, q1⟩ => ?_)
  refine wpAny_Slice (thn (hl pins s1 σ H1 _ I1 q1) fun vl s2 ⟨l, H2, I2, pl, q2⟩ => thn (hu pins s2 σ H2 _ I2 q2) fun vu s3 ⟨u, H3, I3, pu, q3⟩ => ?_)
  rw [evalPart_none]
  refine wpAny_pure ?_
  have I4 : Inv X pins σ H3 { s3 with heap := s3.heap.push { cls := .type "slice", data := .fields #[vl, vu, .none] } } := I3.kept (t' := s3.toks) fun b ob q => Heap.get?_push_of_some _ q
  obtain ⟨T, id, hT, ht, hg⟩ := hr pins { s3 with heap := s3.heap.push { cls := .type "slice", data := .fields #[vl, vu, .none] } } σ H3 x v vl vu l u s3.heap.objs.size Q I4 r1 (Heap.IsSliceOf.new ..) pl pu q3
  show wpAny (model X.prog X.w) X.A (subscriptTail e (.Slice lo hi none p2) v (.ref s3.heap.objs.size)) (EP X pins σ Q) X.xe { s3 with heap := s3.heap.push { cls := .type "slice", data := .fields #[vl, vu, .none] } }
  exact tail_any (ops := [.ref s3.heap.objs.size, v]) ht hT hg (by with_unfolding_all rfl)

/-- the items of xs[lo:hi] -/
def cutV (xs : List V) (lo hi : Option Int) : List V := (xs.drop (HT.sIx xs.length 0 lo)).take (HT.sIx xs.length xs.length hi - HT.sIx xs.length 0 lo)
theorem cutV_length (xs : List V) (lo hi : Option Int) : (cutV xs lo hi).length ≤ xs.length := by
  unfold cutV
  rw [List.length_take, List.length_drop]
  omega
/-- t[lo:hi], not the whole of it (the whole would be t itself) -/
def rSlT (K : PySem.W.Frag) : V → Option Int → Option Int → Hp → VK → Prop := fun x lo hi H Q => ∃ a xs, x = .ref a ∧ SqT K H a xs ∧
  ¬ (HT.sIx xs.length 0 lo = 0 ∧ HT.sIx xs.length xs.length hi = xs.length) ∧ ∀ p, H p = none → Q (.ref p) (upd H p (.tup (cutV xs lo hi)))
/-! ### t < u, t + u -/
def rLtT (K : PySem.W.Frag) : R2 := fun x y H Q => ∃ a b ns ms, x = .ref a ∧ y = .ref b ∧ SqT K H a (ns.map V.int) ∧ SqT K H b (ms.map V.int) ∧ Q (.bl (HT.lexLt ns ms)) H
/-- t + u, t not empty: u empty gives t itself -/
def rCatT (K : PySem.W.Frag) : R2 := fun x y H Q => ∃ a b xs ys, x = .ref a ∧ y = .ref b ∧ SqT K H a xs ∧ SqT K H b ys ∧ xs ≠ [] ∧ xs.length + ys.length ≤ sizeLine ∧
  (ys = [] → Q (.ref a) H) ∧ (ys ≠ [] → ∀ p, H p = none → Q (.ref p) (upd H p (.tup (xs ++ ys))))
end
end L2

namespace L2
open PySem PySem.Spec PyProof.Rows

/-! ### places -/
/-- the place that an index of any sign means -/
def ixN (n : Nat) (i : Int) : Option Nat := if 0 ≤ i then (if i < n then some i.toNat else none) else if -(n : Int) ≤ i then some (i + n).toNat else none
def atI {α : Type} (xs : List α) (i : Int) : Option α := (ixN xs.length i).bind fun j => xs[j]?
theorem ixN_seq {n : Nat} {i : Int} {j : Nat} (h : ixN n i = some j) : seqIndex? i n = some j ∧ j < n ∧ -(n : Int) ≤ i ∧ i < n := by
  unfold ixN at h
  by_cases h0 : 0 ≤ i
  · rw [if_pos h0] at h
    by_cases h1 : i < n
    · rw [if_pos h1] at h
      have e : i.toNat = j := Option.some.inj h
      exact ⟨by rw [seqIndex_of h0 h1, e], by omega, by omega, h1⟩
    · rw [if_neg h1] at h; cases h
  · rw [if_neg h0] at h
    by_cases h1 : -(n : Int) ≤ i
    · rw [if_pos h1] at h
      have e : (i + n).toNat = j := Option.some.inj h
      exact ⟨by rw [seqIndex_neg (by omega) h1, e], by omega, h1, by omega⟩
    · rw [if_neg h1] at h; cases h
theorem atI_get {α : Type} {xs : List α} {i : Int} {v : α} (h : atI xs i = some v) : ∃ j, seqIndex? i xs.length = some j ∧ xs[j]? = some v ∧ j < xs.length ∧ -(xs.length : Int) ≤ i ∧ i < xs.length := by
  unfold atI at h
  cases e : ixN xs.length i with
  | none => rw [e] at h; cases h
  | some j =>
    rw [e] at h
    obtain ⟨h1, h2, h3, h4⟩ := ixN_seq e
    exact ⟨j, h1, h, h2, h3, h4⟩
theorem atI_nat {α : Type} {xs : List α} {j : Nat} {v : α} (h : xs[j]? = some v) : atI xs (j : Int) = some v := by
  have hj : j < xs.length := (List.getElem?_eq_some_iff.mp h).1
  have e : ixN xs.length (j : Int) = some j := by
    unfold ixN
    rw [if_pos (by omega), if_pos (by omega)]; simp
  unfold atI; rw [e]; exact h
/-! ### what may be subscripted -/
/-- what stands as an index of a plain subscript -/
def PlainIx (b : Expr) : Prop := ∀ o i, subscripted b false o i = operate [o, i] (getItem o i)
/-- a subscript by values -/
def IxR (X : Cx) (r : R2) : Prop :=
  ∀ (value slice : Expr) (pins : List (Addr × Obj)) (s : Shared) (σ : St) (H : Hp) (x y : V) (v u : Value) (Q : VK), Inv X pins σ H s → RelV x v → RelV y u → r x y H Q →
    subscripted slice false v u = operate [v, u] (getItem v u) → wpAny (model X.prog X.w) X.A (subscriptTail value slice v u) (EP X pins σ Q) X.xe s
/-- a call of a builtin's method by values: the receiver, the arguments -/
def MtR (X : Cx) (id : String) (r : V → List V → Hp → VK → Prop) : Prop :=
  ∀ (pins : List (Addr × Obj)) (s : Shared) (σ : St) (H : Hp) (x : V) (xs : List V) (v : Value) (us : List Value) (Q : VK), Inv X pins σ H s → RelV x v → Vals xs us → r x xs H Q →
    wpAny (model X.prog X.w) X.A (call (.builtin id) (v :: us)) (EP X pins σ Q) X.xe s
section
variable {X : Cx} {a b : Expr} {ta tb : TE} {pos : Pos}
/-- a[b] -/
theorem pe_ix {r : R2} (hr : IxR X r) (ha : PE X a ta) (hb : PE X b tb) (hs : PlainIx b) : PE X (.Subscript a b pos) (tOp r ta tb) := by
  intro pins s σ H Q I h
  exact Subscript_ (binT ha hb I h fun v u s2 x y H2 I2 rx ry q => hr a b pins s2 σ H2 x y v u Q I2 rx ry q (hs _ _))

def rIxL (K : PySem.W.Frag) : R2 := fun x y H Q => ∃ p xs i v, x = .ref p ∧ y = .int i ∧ SqL K H p xs ∧ atI xs i = some v ∧ Q v H
def rIxT (K : PySem.W.Frag) : R2 := fun x y H Q => ∃ p xs i v, x = .ref p ∧ y = .int i ∧ SqT K H p xs ∧ atI xs i = some v ∧ Q v H
def rIxS : R2 := fun x y H Q => ∃ z i c, x = .str z ∧ y = .int i ∧ z.length ≤ sizeLine ∧ atI z.cps.toList i = some c ∧ Q (.str ⟨#[c]⟩) H
theorem ix_list : IxR X (rIxL X.K) := by
  intro value slice pins s σ H x y v u Q I rx ry h hs
  obtain ⟨p, xs, i, z, rfl, rfl, hq, he, q⟩ := h
  cases rx
  obtain ⟨t, rfl⟩ := ry
  obtain ⟨its, r, pl, hz⟩ := I.list hq
  obtain ⟨j, h1, h2, h3, h4, h5⟩ := atI_get he
  obtain ⟨w, ew, rw'⟩ := r.get h2
  have hl := r.length
  have hn := line63
  have fin : EP X pins σ Q w s := ⟨z, H, I, rw', q⟩
  by_cases h0 : 0 ≤ i
  · have hj : i.toNat = j := by
      rw [seqIndex_of h0 h5] at h1
      exact Option.some.inj h1
    exact item_listR pl.isList h0 (by omega) (by rw [hj]; simpa using ew) fin hs
  · have hj : (i + (its.toArray.size : Int)).toNat = j := by
      rw [seqIndex_neg (by omega) h4] at h1
      rw [List.size_toArray, ← hl]
      exact Option.some.inj h1
    exact subscriptTail_builtinR (x := w) pl.isList.typeIs slot_list_getitem.lookup
      (wpAny_getItem_list_neg (Q := fun r s' => r = w ∧ EP X pins σ Q r s') pl.isList (by omega) (by rw [List.size_toArray] <;> omega) (by omega) (by rw [hj]; simpa using ew) ⟨rfl, fin⟩) hs
/-- list, tuple or str -/
def rIx (K : PySem.W.Frag) : R2 := fun x y H Q => rIxL K x y H Q ∨ rIxT K x y H Q ∨ rIxS x y H Q
/-! ### xs[i] = v, any sign -/
def rSetL : V → V → V → Hp → (Hp → Prop) → Prop := fun o i v H Q => ∃ p xs k j, o = .ref p ∧ i = .int k ∧ H p = some (.lst xs) ∧ ixN xs.length k = some j ∧ Q (upd H p (.lst (xs.set j v)))
/-! ### slices -/
theorem slice_bounds (lo hi : Option Int) (n : Nat) : (sliceBounds lo hi none n).1 = ((HT.sIx n 0 lo : Nat) : Int) ∧ (sliceBounds lo hi none n).2.1 = ((HT.sIx n n hi : Nat) : Int) ∧ (sliceBounds lo hi none n).2.2 = 1 := by
  refine ⟨?_, ?_, rfl⟩
  · cases lo with
    | none => simp [sliceBounds, HT.sIx]
    | some i =>
      simp only [sliceBounds, HT.sIx, Option.getD_none, show (1 : Int) > 0 by decide, if_true]
      by_cases h : i < 0
      · simp only [h, if_true] <;> omega
      · simp only [h, if_false] <;> omega
  · cases hi with
    | none => simp [sliceBounds, HT.sIx]
    | some i =>
      simp only [sliceBounds, HT.sIx, Option.getD_none, show (1 : Int) > 0 by decide, if_true]
      by_cases h : i < 0
      · simp only [h, if_true] <;> omega
      · simp only [h, if_false] <;> omega
theorem slicePick_cut (its : List Value) (lo hi : Option Int) : slicePick its.toArray lo hi none = ((its.drop (HT.sIx its.length 0 lo)).take (HT.sIx its.length its.length hi - HT.sIx its.length 0 lo)).toArray := by
  obtain ⟨h1, h2, h3⟩ := slice_bounds lo hi its.toArray.size
  unfold slicePick
  rw [h1, h2, h3]
  simp only [sliceRange_one, pick_run, List.size_toArray] <;> rfl
/-- xs[lo:hi] of a list: a new list -/
def rSlL (K : PySem.W.Frag) : V → Option Int → Option Int → Hp → VK → Prop := fun x lo hi H Q => ∃ a xs, x = .ref a ∧ SqL K H a xs ∧ ∀ p, H p = none → Q (.ref p) (upd H p (.lst (cutV xs lo hi)))
theorem sl_list : SlR X (rSlL X.K) := by
  intro pins s σ H x v vl vu lo hi sl Q I rx hs pl pu h
  obtain ⟨a, xs, rfl, hx, q⟩ := h
  cases rx
  obtain ⟨its, r, ht, hz⟩ := I.list hx
  have hlen := r.length
  refine ⟨"list", _, slot_list_getitem.lookup, ht.isList.typeIs, ?_⟩
  refine wpAny_getItem_list_slice ht.isList hs pl pu .none (by simp) ?_ (by rw [List.size_toArray] <;> omega)
  rw [slicePick_cut, ← hlen]
  refine ⟨.ref s.heap.objs.size, _, I.laid (t' := s.toks) (o := .lst (cutV xs lo hi)) (fun b ob q => Heap.get?_push_of_some _ q) (Nat.le_refl _) ?_, rfl, q _ (I.hok.fresh (Nat.le_refl _))⟩
  exact ⟨Nat.le_trans (cutV_length xs lo hi) hz, _, 0, (r.drop (HT.sIx xs.length 0 lo)).take (HT.sIx xs.length xs.length hi - HT.sIx xs.length 0 lo), Heap.get?_push_size _ rfl⟩

/-! ### in, not in: flat items -/
def flatV : V → Bool
  | .non => true
  | .bl _ => true
  | .int _ => true
  | .str _ => true
  | _ => false
/-- == of flat values -/
def eqV : V → V → Bool
  | .non, .non => true
  | .bl a, .bl b => a == b
  | .bl a, .int b => (if a then 1 else 0) == b
  | .int a, .bl b => a == (if b then 1 else 0)
  | .int a, .int b => a == b
  | .str a, .str b => a == b
  | _, _ => false
theorem eqAt_V {A : Around} {s : Shared} {y x : V} {u v : Value} (ry : RelV y u) (rx : RelV x v) (fy : flatV y = true) (fx : flatV x = true) : SeqAt.EqAt A s u v (eqV y x) := by
  cases y with
  | non =>
    cases ry
    cases x with
    | non => cases rx; exact SeqAt.EqAt.same _
    | bl b => cases rx; exact SeqAt.EqAt.none_bool b
    | int b => obtain ⟨t, rfl⟩ := rx; exact SeqAt.EqAt.none_int b t
    | str b => obtain ⟨t, rfl⟩ := rx; exact SeqAt.EqAt.none_str b t
    | _ => exact absurd (show false = true from fx) Bool.false_ne_true
  | bl a =>
    cases ry
    cases x with
    | non => cases rx; exact SeqAt.EqAt.bool_none a
    | bl b => cases rx; exact SeqAt.EqAt.bool_bool a b
    | int b => obtain ⟨t, rfl⟩ := rx; exact SeqAt.EqAt.bool_int a b t
    | str b => obtain ⟨t, rfl⟩ := rx; exact SeqAt.EqAt.bool_str a b t
    | _ => exact absurd (show false = true from fx) Bool.false_ne_true
  | int a =>
    obtain ⟨t', rfl⟩ := ry
    cases x with
    | non => cases rx; exact SeqAt.EqAt.int_none a t'
    | bl b => cases rx; exact SeqAt.EqAt.int_bool a t' b
    | int b => obtain ⟨t, rfl⟩ := rx; exact SeqAt.EqAt.int_int a t' b t
    | str b => obtain ⟨t, rfl⟩ := rx; exact SeqAt.EqAt.int_str a t' b t
    | _ => exact absurd (show false = true from fx) Bool.false_ne_true
  | str a =>
    obtain ⟨t', rfl⟩ := ry
    cases x with
    | non => cases rx; exact SeqAt.EqAt.str_none a t'
    | bl b => cases rx; exact SeqAt.EqAt.str_bool a t' b
    | int b => obtain ⟨t, rfl⟩ := rx; exact SeqAt.EqAt.str_int a t' b t
    | str b => obtain ⟨t, rfl⟩ := rx; exact SeqAt.EqAt.str_str a t' b t
    | _ => exact absurd (show false = true from fx) Bool.false_ne_true
  | _ => exact absurd (show false = true from fy) Bool.false_ne_true
/-- the items' answers, read off the values (a value's own answer does not lean on its token) -/
def eqU (x : V) (u : Value) : Bool := match u with
  | .none => eqV .non x
  | .bool b => eqV (.bl b) x
  | .int i _ => eqV (.int i) x
  | .str z _ => eqV (.str z) x
  | _ => false
theorem eqU_of {x y : V} {u : Value} (r : RelV y u) (f : flatV y = true) : eqU x u = eqV y x := by
  cases y with
  | non => cases r; rfl
  | bl b => cases r; rfl
  | int i => obtain ⟨t, rfl⟩ := r; rfl
  | str z => obtain ⟨t, rfl⟩ := r; rfl
  | _ => exact absurd (show false = true from f) Bool.false_ne_true
theorem any_eqU {x : V} : ∀ {xs : List V} {us : List Value}, Vals xs us → xs.all flatV = true → us.any (eqU x) = xs.any fun y => eqV y x
  | _, _, .nil, _ => rfl
  | y :: xs, u :: us, .cons r t, f => by
    rw [List.all_cons, Bool.and_eq_true] at f
    rw [List.any_cons, List.any_cons, eqU_of r f.1, any_eqU t f.2]
theorem mem_eqAt {A : Around} {s : Shared} {x : V} {v : Value} (rx : RelV x v) (fx : flatV x = true) : ∀ {xs : List V} {us : List Value}, Vals xs us → xs.all flatV = true → ∀ u ∈ us, SeqAt.EqAt A s u v (eqU x u)
  | _, _, .nil, _ => fun u hu => by cases hu
  | y :: xs, u :: us, .cons r t, f => fun u' hu => by
    rw [List.all_cons, Bool.and_eq_true] at f
    rcases List.mem_cons.mp hu with rfl | hu
    · rw [eqU_of r f.1]; exact eqAt_V r rx f.1 fx
    · exact mem_eqAt rx fx t f.2 u' hu
def inV (x : V) (xs : List V) : Bool := xs.any fun y => eqV y x
/-- x in a list or tuple of flat items -/
def rIn (K : PySem.W.Frag) (neg : Bool) : R2 := fun x y H Q => ∃ p xs, y = .ref p ∧ (SqL K H p xs ∨ SqT K H p xs) ∧ flatV x = true ∧ xs.all flatV = true ∧ Q (.bl (if neg then !inV x xs else inV x xs)) H
theorem op_in_seq : OpR X (compareOp .In) (rIn X.K false) := by
  intro pins s σ H x y v u Q I rx ry h
  obtain ⟨p, xs, rfl, hq, fx, fs, q⟩ := h
  cases ry
  rcases hq with hq | hq
  · obtain ⟨its, r, pl, hz⟩ := I.list hq
    refine SeqAt.in_listAt (eqU x) pl.isList (fun w hw => mem_eqAt rx fx r fs w (by simpa using hw)) ⟨.bl _, H, I, rfl, ?_⟩
    rw [show its.toArray.any (eqU x) = its.any (eqU x) by simp, any_eqU r fs]
    exact q
  · obtain ⟨its, r, pl, hz⟩ := I.tuple hq
    refine SeqAt.in_tupleAt (eqU x) pl (fun w hw => mem_eqAt rx fx r fs w (by simpa using hw)) ⟨.bl _, H, I, rfl, ?_⟩
    rw [show its.toArray.any (eqU x) = its.any (eqU x) by simp, any_eqU r fs]
    exact q
/-! ### len, list(x), tuple(x) of any list or tuple that is read -/
theorem call_len_seq : CallR X (.builtin "len") (fun xs H Q => ∃ p ys, xs = [.ref p] ∧ (SqL X.K H p ys ∨ SqT X.K H p ys) ∧ Q (.int ys.length) H) := by
  intro pins s σ H xs us Q I r h
  obtain ⟨p, ys, rfl, hq, q⟩ := h
  obtain ⟨u, rfl, rx⟩ := vals1 r
  cases rx
  have hn := line63
  rcases hq with hq | hq
  · obtain ⟨its, r', pl, hz⟩ := I.list hq
    have hlen := r'.length
    exact Calls.call_len_list pl.isList (by simp only [List.size_toArray] <;> omega) ⟨.int ys.length, H, I.tok _, ⟨s.toks + 1, by rw [List.size_toArray, hlen]⟩, q⟩
  · obtain ⟨its, r', pl, hz⟩ := I.tuple hq
    have hlen := r'.length
    exact len_tuple pl (by simp only [List.size_toArray] <;> omega) ⟨.int ys.length, H, I.tok _, ⟨s.toks + 1, by rw [List.size_toArray, hlen]⟩, q⟩
/-! ### the call of a builtin's method: o.m(..) -/
/-- the value is of that builtin type -/
def tyV (K : PySem.W.Frag) (T : String) (x : V) (H : Hp) : Prop := match x with
  | .str _ => T = "str"
  | .int _ => T = "int"
  | .ref p => (T = "list" ∧ ∃ xs, SqL K H p xs) ∨ (T = "tuple" ∧ ∃ o, K.lookup p = some o ∧ o.cls = .type "tuple" ∧ o.dict = none) ∨
      (T = "dict" ∧ ((∃ kvs, H p = some (.dK kvs)) ∨ ∃ kvs, H p = some (.dT kvs))) ∨ (T = "set" ∧ ∃ S n, H p = some (.set S n))
  | _ => False
theorem tyV_is {pins : List (Addr × Obj)} {σ : St} {H : Hp} {s : Shared} {T : String} {x : V} {v : Value} (I : Inv X pins σ H s) (r : RelV x v) (ty : tyV X.K T x H) :
    s.TypeIs v T ∧ ∀ a, v = .ref a → ∃ ob, s.heap.get? a = some ob ∧ ob.dict = none := by
  cases x with
  | str z =>
    obtain ⟨t, rfl⟩ := r
    cases (show T = "str" from ty)
    exact ⟨typeIs_str s z t, fun _ e => nomatch e⟩
  | int i =>
    obtain ⟨t, rfl⟩ := r
    cases (show T = "int" from ty)
    exact ⟨typeIs_int s i t, fun _ e => nomatch e⟩
  | ref p =>
    cases r
    rcases ty with ⟨rfl, xs, hq⟩ | ⟨rfl, o, hk, hc, hd⟩ | ⟨rfl, hk⟩ | ⟨rfl, S, n, hk⟩
    · obtain ⟨its, _, pl, _⟩ := I.list hq
      refine ⟨pl.isList.typeIs, fun a e => ?_⟩
      cases e
      obtain ⟨o, n, e, c, hd, _⟩ := pl
      exact ⟨o, e, hd⟩
    · refine ⟨⟨o, I.kIn p o hk, hc⟩, fun a e => ?_⟩
      cases e
      exact ⟨o, I.kIn _ o hk, hd⟩
    · have z : ∃ o, s.heap.get? p = some o ∧ o.ExactDict := by
        rcases hk with ⟨kvs, hk⟩ | ⟨kvs, hk⟩
        · obtain ⟨_, _, _, _, o, _, _, e, ex, _⟩ := I.hok p _ hk
          exact ⟨o, e, ex⟩
        · obtain ⟨_, _, _, _, o, _, _, e, ex, _⟩ := I.hok p _ hk
          exact ⟨o, e, ex⟩
      obtain ⟨o, e, ex⟩ := z
      refine ⟨⟨o, e, ex.1⟩, fun a e2 => ?_⟩
      cases e2
      exact ⟨o, e, ex.2.1⟩
    · obtain ⟨o, _, _, _, e, ex, _⟩ := I.hok p _ hk
      refine ⟨⟨o, e, ex.1⟩, fun a e2 => ?_⟩
      cases e2
      exact ⟨o, e, ex.2.1⟩
  | _ => exact False.elim ty
def tBM0 (K : PySem.W.Frag) (T : String) (r : V → List V → Hp → VK → Prop) (to : TE) : TE := fun σ H Q => to σ H fun x H1 => tyV K T x H1 ∧ r x [] H1 Q
def tBM (K : PySem.W.Frag) (T : String) (r : V → List V → Hp → VK → Prop) (to : TE) (t : TA) : TE := fun σ H Q => to σ H fun x H1 => tyV K T x H1 ∧ t σ H1 fun xs H2 => r x xs H2 Q
variable {o e : Expr} {es : List Expr} {to : TE} {t : TA} {name : Str} {apos cpos : Pos} {T id : String} {r : V → List V → Hp → VK → Prop}
theorem pe_bm (pa : PlainAttrs T) (slot : Slot T name id) (hty : typeOf (.builtin id) = pure (.type "method_descriptor")) (hm : MtR X id r) (ho : PE X o to) (ha : PA X (e :: es) t)
    (hbase : attributeBase o name X.env (eval o X.env) = eval o X.env := by rfl)
    (hfew : ((backTo cpos (starEach (e :: es) X.env)).all (fun x => !x.1) && (backToKw cpos (keywordEach [] X.env)).all (fun x => x.1.isSome)
      && decide ((e :: es).length + ([] : List Keyword).length + (if ([] : List Keyword).isEmpty then 0 else 1) < 30)) = true := by rfl)
    (hline : (apos.endLine == cpos.line) = true := by rfl) (hs : starEach (e :: es) X.env = (false, eval e X.env) :: starEach es X.env := by rfl) (hplain : (backTo cpos (starEach es X.env)).any (·.1) = false := by rfl) :
    PE X (.Call (.Attribute o name apos) (e :: es) [] cpos) (tBM X.K T r to t) := by
  intro pins s σ H Q I h
  refine wpAny_Call_method_late hbase hfew hline rfl (thn (ho pins s σ H _ I h) fun v s1 ⟨x, H1, I1, r1, ty, q1⟩ => ?_)
  obtain ⟨h1, h2⟩ := tyV_is I1 r1 ty
  refine ⟨T, id, pa, slot, hty, h1, h2, ?_⟩
  have hA := ha cpos pins s1 σ H1 _ I1 q1
  rw [hs] at hA ⊢
  refine Calls.callWith_builtin (by show (false || (backTo cpos (starEach es X.env)).any (·.1)) = false; rw [hplain] <;> rfl) (Calls.evalArgs_plain ?_)
  exact thn hA fun us s2 ⟨vs, H2, I2, r2, q2⟩ => hm pins s2 σ H2 x vs v us Q I2 r1 r2 q2
/- xs.append(e), list.index on a module's tuple .. are MtR facts of 06m -/
end
end L2

namespace L2
open PySem PySem.Spec PyProof.Rows

def MtM (X : Cx) (id : String) (r : V → List V → Hp → VK → Prop) : Prop :=
  ∀ (pins : List (Addr × Obj)) (s : Shared) (σ : St) (H : Hp) (x : V) (xs : List V) (v : Value) (us : List Value) (Q : VK), Inv X pins σ H s → RelV x v → Vals xs us → r x xs H Q →
    wpAny (model X.prog X.w) X.A (call (.builtin id) (v :: us)) (EP X pins σ Q) X.xe s

/-! ### lists of values -/
theorem Vals.one : ∀ {x : V} {us : List Value}, Vals [x] us → ∃ u, us = [u] ∧ RelV x u
  | _, _, .cons r .nil => ⟨_, rfl, r⟩
section
variable {X : Cx} {pins : List (Addr × Obj)} {σ : St} {H : Hp} {s : Shared} {l b : Addr} {xs ys zs : List V}

/-! ### the two steps: a tracked list is rewritten, a new list is laid -/
theorem Inv.lset {its its' : List Value} {n : Nat} {f : Array Value → Array Value} {t' : Nat} (I : Inv X pins σ H s) (hH : H l = some (.lst xs))
    (e : s.heap.get? l = some { cls := .type "list", data := .seq its.toArray n }) (hf : f its.toArray = its'.toArray) (hv : Vals ys its') (hz : ys.length ≤ sizeLine) :
    Inv X pins σ (upd H l (.lst ys)) { s with heap := s.heap.update l (Obj.mapSeq f), toks := t' } := by
  have q := PySem.IsL.update e f
  rw [hf] at q
  refine I.write (x := l) (e := l) (by rw [hH]; exact trivial) (.inl rfl) (fun b' u hb hu => (Heap.get?_update_other s.heap (Obj.mapSeq f) (Ne.symm hb)).trans hu) ⟨_, q⟩ ?_
  exact ⟨hz, its', _, hv, q⟩
theorem Inv.lnew {its : List Value} {t' : Nat} (I : Inv X pins σ H s) (hv : Vals ys its) (hz : ys.length ≤ sizeLine) :
    Inv X pins σ (upd H s.heap.objs.size (.lst ys)) { s with heap := s.heap.push { cls := .type "list", data := .seq its.toArray }, toks := t' } :=
  I.laid (fun _ _ q => Heap.get?_push_of_some _ q) (Nat.le_refl _) ⟨hz, its, 0, hv, Heap.get?_push_size _ rfl⟩
theorem Inv.fresh (I : Inv X pins σ H s) : H s.heap.objs.size = none := I.hok.fresh (Nat.le_refl _)
theorem Inv.lstM (I : Inv X pins σ H s) (hH : H l = some (.lst xs)) : xs.length ≤ sizeLine ∧ ∃ (its : List Value) (n : Nat), Vals xs its ∧ xs.length = its.length ∧ s.heap.get? l = some { cls := .type "list", data := .seq its.toArray n } := by
  obtain ⟨z, its, n, r, e⟩ := I.hok l _ hH
  exact ⟨z, its, n, r, r.length, e⟩

theorem notLongL {n : Nat} (h : n ≤ sizeLine) : Builtin.List.listTooLong n = false := by
  unfold Builtin.List.listTooLong
  exact decide_eq_false (by omega)
end

section
variable {X : Cx}

/-! ### methods -/
def rAppend : V → List V → Hp → VK → Prop := fun x vs H Q => ∃ l xs y, x = .ref l ∧ vs = [y] ∧ H l = some (.lst xs) ∧ xs.length < sizeLine ∧ Q .non (upd H l (.lst (xs ++ [y])))
theorem mt_append : MtM X "list.append" rAppend := by
  intro pins s σ H x vs v us Q I rx rv h
  obtain ⟨l, xs, y, rfl, rfl, hH, hz, q⟩ := h
  cases rx
  obtain ⟨u, rfl, ru⟩ := rv.one
  obtain ⟨z, its, n, r, hl, e⟩ := I.lstM hH
  refine call_meets F.slot_list_append ⟨_, e, rfl⟩ F.entry_list_append (F.args_list_append_2 _ _) (PySem.list_append l its.toArray n u (by rw [List.size_toArray]; omega)) ⟨e, ?_⟩
  refine ⟨.non, _, I.lset (its' := its ++ [u]) hH e (by simp) (r.append (.cons ru .nil)) ?_, rfl, q⟩
  rw [List.length_append, List.length_singleton]
  omega

def rExtend : V → List V → Hp → VK → Prop := fun x vs H Q => ∃ l b xs zs, x = .ref l ∧ vs = [.ref b] ∧ H l = some (.lst xs) ∧ H b = some (.lst zs) ∧ xs.length + zs.length ≤ sizeLine ∧ Q .non (upd H l (.lst (xs ++ zs)))
theorem mt_extend : MtM X "list.extend" rExtend := by
  intro pins s σ H x vs v us Q I rx rv h
  obtain ⟨l, b, xs, zs, rfl, rfl, hH, hB, hz, q⟩ := h
  cases rx
  obtain ⟨u, rfl, ru⟩ := rv.one
  cases ru
  obtain ⟨z, its, n, r, hl, e⟩ := I.lstM hH
  obtain ⟨z2, its2, n2, r2, hl2, e2⟩ := I.lstM hB
  have hsz : its.toArray.size + its2.toArray.size ≤ sizeLine := by rw [List.size_toArray, List.size_toArray]; omega
  have hlong : ¬ (!its.toArray.isEmpty && Builtin.List.listTooLong (its.toArray.size + its2.toArray.size)) = true := by
    rw [notLongL hsz, Bool.and_false]
    exact Bool.false_ne_true
  refine call_meets F.slot_list_extend ⟨_, e, rfl⟩ F.entry_list_extend (F.args_list_extend_2 _ _)
    (AutoSeq1.list_extend_list_list_0 l its.toArray n b its2.toArray n2 hlong (by rw [List.size_toArray]; omega) (by omega)) ⟨e, e2, ?_⟩
  refine ⟨.non, _, I.lset (its' := its ++ its2) hH e (by simp) (r.append r2) ?_, rfl, q⟩
  rw [List.length_append]
  omega

def rPop : V → List V → Hp → VK → Prop := fun x vs H Q => ∃ l xs y, x = .ref l ∧ vs = [] ∧ H l = some (.lst xs) ∧ xs[xs.length - 1]? = some y ∧ Q y (upd H l (.lst xs.dropLast))
def rPopAt : V → List V → Hp → VK → Prop := fun x vs H Q => ∃ l xs i k y, x = .ref l ∧ vs = [.int i] ∧ H l = some (.lst xs) ∧ -(2 ^ 63) ≤ i ∧ i < 2 ^ 63 ∧ seqIndex? i xs.length = some k ∧ xs[k]? = some y ∧ Q y (upd H l (.lst (xs.eraseIdx k)))
def rReverse : V → List V → Hp → VK → Prop := fun x vs H Q => ∃ l xs, x = .ref l ∧ vs = [] ∧ H l = some (.lst xs) ∧ Q .non (upd H l (.lst xs.reverse))
def rClear : V → List V → Hp → VK → Prop := fun x vs H Q => ∃ l xs, x = .ref l ∧ vs = [] ∧ H l = some (.lst xs) ∧ Q .non (upd H l (.lst []))
/-! ### list + list, list += list, list * int -/
def rCat : R2 := fun x y H Q => ∃ l b xs zs, x = .ref l ∧ y = .ref b ∧ H l = some (.lst xs) ∧ H b = some (.lst zs) ∧ xs.length + zs.length ≤ sizeLine ∧ ∀ p, H p = none → Q (.ref p) (upd H p (.lst (xs ++ zs)))
theorem op_cat : OpR X (binaryOp .Add) rCat := by
  intro pins s σ H x y v u Q I rx ry h
  obtain ⟨l, b, xs, zs, rfl, rfl, hH, hB, hz, q⟩ := h
  cases rx
  cases ry
  obtain ⟨z, its, n, r, hl, e⟩ := I.lstM hH
  obtain ⟨z2, its2, n2, r2, hl2, e2⟩ := I.lstM hB
  refine PySem.P.add_list e e2 ?_ (by rw [List.size_toArray, List.size_toArray]; omega)
  have ea : its.toArray ++ its2.toArray = (its ++ its2).toArray := by simp
  rw [ea]
  exact ⟨.ref _, _, I.lnew (t' := s.toks) (r.append r2) (by rw [List.length_append]; omega), rfl, q _ I.fresh⟩
/-- a list times an int (a negative one is nothing) -/
def rRep : R2 := fun x y H Q => ∃ l k xs, x = .ref l ∧ y = .int k ∧ H l = some (.lst xs) ∧ -(2 ^ 63) ≤ k ∧ k < 2 ^ 63 ∧ xs.length * k.toNat ≤ sizeLine ∧
  ∀ p, H p = none → Q (.ref p) (upd H p (.lst (List.replicate k.toNat xs).flatten))
/-! ### del xs[i] -/
end

/-! ### xs[a:b] = ys -/
section
variable {prog : Program} {w : World} {A : Around} {E : Value → Shared → Prop} {s : Shared}
set_option maxRecDepth 100000 in
end

section
variable {X : Cx}
end
end L2

namespace L2
open PySem PySem.Spec PyProof.Rows

theorem Vals.ints : ∀ {ns : List Int} {us : List Value}, Vals (ns.map V.int) us → IntsAre us ns
  | [], us, h => by
    rw [List.map_nil] at h
    cases h
    exact IntsAre.nil
  | n :: ns, us, h => by
    rw [List.map_cons] at h
    cases h with
    | cons r t =>
      obtain ⟨k, rfl⟩ := r
      exact IntsAre.cons n k (Vals.ints t)
theorem Vals.ref1 {a : Addr} {us : List Value} (r : Vals [V.ref a] us) : us = [Value.ref a] := by
  cases r with
  | cons r t =>
    cases t
    cases r
    rfl
/-! ### the library's walks over a list of ints, kept objects alone -/
section
variable {prog : Program} {w : World} {A : Around} {E : Value → Shared → Prop} {s : Shared} {l : Addr} {its : List Value} {ns : List Int} {Q : Value → Shared → Prop}
theorem max_raw (hh : A.handled = none) (hl : s.heap.IsList l its.toArray) (hi : IntsAre its ns) (hne : 0 < ns.length)
    (h : ∀ h' tk M t', (∀ b o, s.heap.get? b = some o → h'.get? b = some o) → M ∈ ns → (∀ a, a ∈ ns → a ≤ M) → Q (.int M t') { s with heap := h', toks := tk }) : wpAny (model prog w) A (call (.builtin "max") [.ref l]) Q E s := by
  obtain ⟨xs, e⟩ := hi.allInts.items
  have hn : numsOf (intItems xs).toList = ns := by rw [← e]; exact hi.numsOf
  rw [nums_intItems] at hn
  subst hn
  rw [e] at hl
  have hsz : 0 < xs.size := by simpa using hne
  refine PySem.max_intList hh hl hsz fun v h' tk hv hk => ?_
  obtain ⟨t, rfl⟩ := intItems_at hv
  obtain ⟨h1, h2⟩ := argBest_gt (numAt xs) (xs.size - 1)
  refine h h' tk _ t hk ?_ fun a ha => ?_
  · rw [numAt_eq]; exact PySem.getD_mem (by rw [List.length_map, Array.length_toList]; omega)
  · obtain ⟨j, hj, rfl⟩ := mem_getD ha
    rw [List.length_map, Array.length_toList] at hj
    rw [← numAt_eq]; exact h2 j (by omega)
theorem min_raw (hh : A.handled = none) (hl : s.heap.IsList l its.toArray) (hi : IntsAre its ns) (hne : 0 < ns.length)
    (h : ∀ h' tk M t', (∀ b o, s.heap.get? b = some o → h'.get? b = some o) → M ∈ ns → (∀ a, a ∈ ns → M ≤ a) → Q (.int M t') { s with heap := h', toks := tk }) : wpAny (model prog w) A (call (.builtin "min") [.ref l]) Q E s := by
  obtain ⟨xs, e⟩ := hi.allInts.items
  have hn : numsOf (intItems xs).toList = ns := by rw [← e]; exact hi.numsOf
  rw [nums_intItems] at hn
  subst hn
  rw [e] at hl
  have hsz : 0 < xs.size := by simpa using hne
  refine PySem.min_intList hh hl hsz fun v h' tk hv hk => ?_
  obtain ⟨t, rfl⟩ := intItems_at hv
  obtain ⟨h1, h2⟩ := argBest_lt (numAt xs) (xs.size - 1)
  refine h h' tk _ t hk ?_ fun a ha => ?_
  · rw [numAt_eq]; exact PySem.getD_mem (by rw [List.length_map, Array.length_toList]; omega)
  · obtain ⟨j, hj, rfl⟩ := mem_getD ha
    rw [List.length_map, Array.length_toList] at hj
    rw [← numAt_eq]; exact h2 j (by omega)
end

/-! ### the calls, by values (CallR of 03t; MtR of 06l) -/
section
variable {X : Cx}
/-- sum(xs) of a list of ints -/
def rSum (K : PySem.W.Frag) : List V → Hp → VK → Prop := fun vs H Q => ∃ (a : Addr) (ns : List Int), vs = [V.ref a] ∧ SqL K H a (ns.map V.int) ∧ Q (.int ns.sum) H
/-- max(xs), min(xs) of a list of ints -/
def rMax (K : PySem.W.Frag) : List V → Hp → VK → Prop := fun vs H Q => ∃ (a : Addr) (ns : List Int), vs = [V.ref a] ∧ SqL K H a (ns.map V.int) ∧ 0 < ns.length ∧ ∀ m, m ∈ ns → (∀ y, y ∈ ns → y ≤ m) → Q (.int m) H
def rMin (K : PySem.W.Frag) : List V → Hp → VK → Prop := fun vs H Q => ∃ (a : Addr) (ns : List Int), vs = [V.ref a] ∧ SqL K H a (ns.map V.int) ∧ 0 < ns.length ∧ ∀ m, m ∈ ns → (∀ y, y ∈ ns → m ≤ y) → Q (.int m) H
theorem cr_max (hc : X.calm = true) : CallR X (.builtin "max") (rMax X.K) := by
  intro pins s σ H vs us Q I r h
  obtain ⟨a, ns, rfl, hs, hne, q⟩ := h
  obtain ⟨its, rv, hl, _⟩ := I.list hs
  rw [Vals.ref1 r]
  exact max_raw (I.ok.hd hc) hl.isList rv.ints hne fun h' tk m t' hk h1 h2 => ⟨.int _, H, I.kept hk, ⟨_, rfl⟩, q m h1 h2⟩
theorem cr_min (hc : X.calm = true) : CallR X (.builtin "min") (rMin X.K) := by
  intro pins s σ H vs us Q I r h
  obtain ⟨a, ns, rfl, hs, hne, q⟩ := h
  obtain ⟨its, rv, hl, _⟩ := I.list hs
  rw [Vals.ref1 r]
  exact min_raw (I.ok.hd hc) hl.isList rv.ints hne fun h' tk m t' hk h1 h2 => ⟨.int _, H, I.kept hk, ⟨_, rfl⟩, q m h1 h2⟩

/-! sorted, sort (fewer than 64 items: the library's own bound) -/
def rSorted (K : PySem.W.Frag) : List V → Hp → VK → Prop := fun vs H Q => ∃ (a : Addr) (ns : List Int), vs = [V.ref a] ∧ SqL K H a (ns.map V.int) ∧ ns.length < 64 ∧
  ∀ (ns' : List Int) (p : Addr), ns'.Perm ns → ns'.Pairwise (· ≤ ·) → H p = none → Q (.ref p) (upd H p (.lst (ns'.map V.int)))
def rSortedS (K : PySem.W.Frag) : List V → Hp → VK → Prop := fun vs H Q => ∃ (a : Addr) (xs : List Str), vs = [V.ref a] ∧ SqL K H a (xs.map V.str) ∧ xs.length < 64 ∧
  ∀ (ys : List Str) (p : Addr), ys.Perm xs → sortedS ys = true → H p = none → Q (.ref p) (upd H p (.lst (ys.map V.str)))
/-- xs.sort(), ints -/
def rSort : V → List V → Hp → VK → Prop := fun x xs H Q => ∃ (a : Addr) (ns : List Int), x = V.ref a ∧ xs = [] ∧ H a = some (.lst (ns.map V.int)) ∧ ns.length < 64 ∧
  ∀ ns' : List Int, ns'.Perm ns → ns'.Pairwise (· ≤ ·) → Q .non (upd H a (.lst (ns'.map V.int)))
end

/-! ### list.index, flat items -/
section
variable {X : Cx}
def rIndex (K : PySem.W.Frag) : V → List V → Hp → VK → Prop := fun x xs H Q => ∃ (a : Addr) (ys : List V) (y : V) (j : Nat) (z : V), x = V.ref a ∧ xs = [y] ∧ SqL K H a ys ∧ flatV y = true ∧ ys.all flatV = true ∧ ys[j]? = some z ∧ eqV z y = true ∧
  (∀ (m : Nat) (z' : V), m < j → ys[m]? = some z' → eqV z' y = false) ∧ Q (.int (j : Nat)) H
end

/-! ### type(x) of an own instance; is, is not of a module's class -/
section
variable {X : Cx}
end

/-! ### any(xs), all(xs) of a list of bools -/
section
variable {X : Cx}
def rAny (K : PySem.W.Frag) : List V → Hp → VK → Prop := fun vs H Q => ∃ (a : Addr) (bs : List Bool), vs = [V.ref a] ∧ SqL K H a (bs.map V.bl) ∧ Q (.bl (bs.any id)) H
def rAll (K : PySem.W.Frag) : List V → Hp → VK → Prop := fun vs H Q => ∃ (a : Addr) (bs : List Bool), vs = [V.ref a] ∧ SqL K H a (bs.map V.bl) ∧ Q (.bl (bs.all id)) H
end

/-! ### == and != of data at any depth: none, bools, ints, texts, lists, tuples -/
mutual
inductive Dp (K : PySem.W.Frag) (H : Hp) : V → PyData → Prop
  | non : Dp K H .non .none
  | bl (b : Bool) : Dp K H (.bl b) (.bool b)
  | int (i : Int) : Dp K H (.int i) (.int i)
  | str (x : Str) : Dp K H (.str x) (.str x)
  | lst {a : Addr} {xs : List V} {ds : List PyData} : SqL K H a xs → DpAll K H xs ds → Dp K H (.ref a) (.list ds)
  | tup {a : Addr} {xs : List V} {ds : List PyData} : SqT K H a xs → DpAll K H xs ds → Dp K H (.ref a) (.tuple ds)
inductive DpAll (K : PySem.W.Frag) (H : Hp) : List V → List PyData → Prop
  | nil : DpAll K H [] []
  | cons {v : V} {vs : List V} {d : PyData} {ds : List PyData} : Dp K H v d → DpAll K H vs ds → DpAll K H (v :: vs) (d :: ds)
end
section
variable {X : Cx} {pins : List (Addr × Obj)} {σ : St} {H : Hp} {s : Shared}
mutual
theorem Dp.reads (I : Inv X pins σ H s) : ∀ (d : PyData) (v : V) (u : Value), Dp X.K H v d → RelV v u → ∃ as, Reads s.heap u d as
  | .none, _, _, h, r => by
    cases h
    cases r
    exact ⟨_, Reads.none⟩
  | .bool b, _, _, h, r => by
    cases h
    cases r
    exact ⟨_, Reads.bool b⟩
  | .int i, _, _, h, r => by
    cases h
    obtain ⟨t, rfl⟩ := r
    exact ⟨_, Reads.int i t⟩
  | .str x, _, _, h, r => by
    cases h
    obtain ⟨t, rfl⟩ := r
    exact ⟨_, Reads.str x t⟩
  | .list ds, _, _, h, r => by
    cases h with
    | lst hs ha =>
      cases r
      obtain ⟨its, rv, ⟨o, n, ho, hc, _, hd⟩, _⟩ := I.list hs
      obtain ⟨as, hr⟩ := Dp.readsAll I ds _ its ha rv
      exact ⟨_, Reads.list ho hc hd hr⟩
  | .tuple ds, _, _, h, r => by
    cases h with
    | tup hs ha =>
      cases r
      obtain ⟨its, rv, ⟨o, ho, hc, n, hd⟩, _⟩ := I.tuple hs
      obtain ⟨as, hr⟩ := Dp.readsAll I ds _ its ha rv
      exact ⟨_, Reads.tuple ho hc hd hr⟩
  | .dict _, _, _, h, _ => by cases h
theorem Dp.readsAll (I : Inv X pins σ H s) : ∀ (ds : List PyData) (vs : List V) (us : List Value), DpAll X.K H vs ds → Vals vs us → ∃ as, ReadsAll s.heap us ds as
  | [], _, _, h, r => by
    cases h
    cases r
    exact ⟨_, ReadsAll.nil⟩
  | d :: ds, _, _, h, r => by
    cases h with
    | cons h1 h2 =>
      cases r with
      | cons r1 r2 =>
        obtain ⟨as, q1⟩ := Dp.reads I d _ _ h1 r1
        obtain ⟨bs, q2⟩ := Dp.readsAll I ds _ _ h2 r2
        exact ⟨_, ReadsAll.cons q1 q2⟩
end
end
section
variable {X : Cx}
def rEqD (K : PySem.W.Frag) : R2 := fun x y H Q => ∃ d e, Dp K H x d ∧ Dp K H y e ∧ SeqAt.shaped d = true ∧ SeqAt.shaped e = true ∧ Q (.bl (PyData.eqv d e)) H
def rNeD (K : PySem.W.Frag) : R2 := fun x y H Q => ∃ d e, Dp K H x d ∧ Dp K H y e ∧ SeqAt.shaped d = true ∧ SeqAt.shaped e = true ∧ Q (.bl (!PyData.eqv d e)) H
end
end L2

namespace L2
open PySem PySem.Spec PyProof.Rows
abbrev CellAt (h : Heap) (c : Addr) (v : Option Value) : Prop := h.IsCell c v
def relS (scope sc : Scope) : Scope :=
  { scope with names := scope.names.map fun (n, k) => if (k == .free && sc.kind == .function && sc.names.lookup n == some .cell) then (n, .cell) else (n, k) }

def cloFrom (cells : List (Str × Addr)) : List (Str × NameKind) → List (Str × Addr) → List (Str × Addr)
  | [], acc => acc
  | (n, k) :: r, acc => if k == .free then cloFrom cells r ((n, (cells.lookup n).getD 0) :: acc) else cloFrom cells r acc

theorem closure_loop (env : Env) (f : Str × NameKind → List (Str × Addr) → Sem (ForInStep (List (Str × Addr))))
    (hf : ∀ n k c, f (n, k) c = if k == .free then (do let a ← cellOf env n; pure (.yield ((n, a) :: c))) else pure (.yield c)) :
    ∀ (names : List (Str × NameKind)) (acc : List (Str × Addr)), (∀ y ∈ names, y.2 = .free → ∃ c, env.cells.lookup y.1 = some c) → forIn names acc f = pure (cloFrom env.cells names acc)
  | [], acc, _ => by rw [List.forIn_nil]; rfl
  | (n, k) :: r, acc, h => by
    rw [List.forIn_cons, hf]
    have ih := fun acc => closure_loop env f hf r acc fun y hy => h y (List.mem_cons_of_mem _ hy)
    unfold cloFrom
    by_cases hk : (k == NameKind.free) = true
    · rw [if_pos hk, if_pos hk]
      obtain ⟨c, hc⟩ := h (n, k) List.mem_cons_self (by simpa using hk)
      have e : cellOf env n = pure c := by unfold cellOf; rw [hc]
      rw [e]
      have e2 : (env.cells.lookup n).getD 0 = c := by rw [hc]; rfl
      rw [e2]
      exact ih _
    · rw [if_neg hk, if_neg hk]
      exact ih _
theorem closure_ok {scope : Scope} {env : Env} (h : ∀ y ∈ scope.names, y.2 = .free → ∃ c, env.cells.lookup y.1 = some c) : closureFor scope env = pure (cloFrom env.cells scope.names []) := by
  simp only [closureFor]
  rw [closure_loop env _ (fun n k c => rfl) scope.names [] h]
  rfl

theorem mem_lookup {α : Type} : ∀ {l : List (Str × α)} {n : Str} {c : α}, (n, c) ∈ l → ∃ c', l.lookup n = some c'
  | (k, v) :: r, n, c, h => by
    rw [List.lookup_cons]
    cases hb : n == k with
    | true => exact ⟨_, rfl⟩
    | false =>
      rcases List.mem_cons.mp h with e | h
      · cases e; simp at hb
      · exact mem_lookup h

theorem cloFrom_mem {cells : List (Str × Addr)} : ∀ {names : List (Str × NameKind)} {acc : List (Str × Addr)} {n : Str} {c : Addr}, (n, c) ∈ cloFrom cells names acc → (n, c) ∈ acc ∨ ((n, .free) ∈ names ∧ c = (cells.lookup n).getD 0)
  | [], _, _, _, h => .inl h
  | (m, k) :: r, acc, n, c, h => by
    unfold cloFrom at h
    split at h
    · rename_i hk
      have hk : k = .free := by simpa using hk
      rcases cloFrom_mem h with h | ⟨h1, h2⟩
      · rcases List.mem_cons.mp h with e | h
        · cases e; exact .inr ⟨hk ▸ List.mem_cons_self, rfl⟩
        · exact .inl h
      · exact .inr ⟨List.mem_cons_of_mem _ h1, h2⟩
    · rcases cloFrom_mem h with h | ⟨h1, h2⟩
      · exact .inl h
      · exact .inr ⟨List.mem_cons_of_mem _ h1, h2⟩
theorem cloFrom_acc {cells : List (Str × Addr)} : ∀ {names : List (Str × NameKind)} {acc : List (Str × Addr)} {p : Str × Addr}, p ∈ acc → p ∈ cloFrom cells names acc
  | [], _, _, h => h
  | (m, k) :: r, acc, p, h => by
    unfold cloFrom
    split
    · exact cloFrom_acc (List.mem_cons_of_mem _ h)
    · exact cloFrom_acc h
theorem cloFrom_has {cells : List (Str × Addr)} : ∀ {names : List (Str × NameKind)} {acc : List (Str × Addr)} {n : Str}, (n, .free) ∈ names → (n, (cells.lookup n).getD 0) ∈ cloFrom cells names acc
  | (m, k) :: r, acc, n, h => by
    unfold cloFrom
    rcases List.mem_cons.mp h with e | h
    · cases e
      exact cloFrom_acc List.mem_cons_self
    · split
      · exact cloFrom_has h
      · exact cloFrom_has h

theorem cells_mem : ∀ {names : List (Str × NameKind)} {h : Heap} {acc : List (Str × Addr)} {x : Str} {c : Addr}, (x, c) ∈ cellsFrom h.objs.size names acc →
    (x, c) ∈ acc ∨ ((x, .cell) ∈ names ∧ h.objs.size ≤ c ∧ CellAt (pushCells h names) c none)
  | [], _, _, _, _, h => .inl h
  | (n, k) :: r, h, acc, x, c, hm => by
    unfold cellsFrom at hm
    unfold pushCells
    split at hm
    · rename_i hk
      rw [if_pos hk]
      have hk : k = .cell := by simpa using hk
      rw [← Heap.size_push h { cls := .type "cell", data := .cell none }] at hm
      rcases cells_mem hm with hm | ⟨h1, h2, h3⟩
      · rcases List.mem_cons.mp hm with e | hm
        · cases e
          exact .inr ⟨hk ▸ List.mem_cons_self, Nat.le_refl _, _, pushCells_keeps r _ _ _ (Heap.get?_push_size _ rfl), rfl⟩
        · exact .inl hm
      · rw [Heap.size_push] at h2
        exact .inr ⟨List.mem_cons_of_mem _ h1, Nat.le_of_succ_le h2, h3⟩
    · rename_i hk
      rw [if_neg hk]
      rcases cells_mem hm with hm | ⟨h1, h2, h3⟩
      · exact .inl hm
      · exact .inr ⟨List.mem_cons_of_mem _ h1, h2, h3⟩
theorem cells_acc : ∀ {names : List (Str × NameKind)} {n : Nat} {acc : List (Str × Addr)} {p : Str × Addr}, p ∈ acc → p ∈ cellsFrom n names acc
  | [], _, _, _, h => h
  | (m, k) :: r, n, acc, p, h => by
    unfold cellsFrom
    split
    · exact cells_acc (List.mem_cons_of_mem _ h)
    · exact cells_acc h
theorem cells_has : ∀ {names : List (Str × NameKind)} {n : Nat} {acc : List (Str × Addr)} {x : Str}, (x, .cell) ∈ names → ∃ c, (x, c) ∈ cellsFrom n names acc
  | (m, k) :: r, n, acc, x, h => by
    unfold cellsFrom
    rcases List.mem_cons.mp h with e | h
    · cases e
      exact ⟨n, cells_acc List.mem_cons_self⟩
    · split
      · exact cells_has h
      · exact cells_has h
theorem cells_inj : ∀ {names : List (Str × NameKind)} {h : Heap} {acc : List (Str × Addr)} {x y : Str} {c : Addr}, (∀ p ∈ acc, p.2 < h.objs.size) → (∀ x y c, (x, c) ∈ acc → (y, c) ∈ acc → x = y) →
    (x, c) ∈ cellsFrom h.objs.size names acc → (y, c) ∈ cellsFrom h.objs.size names acc → x = y
  | [], _, _, _, _, _, _, hi, h1, h2 => hi _ _ _ h1 h2
  | (n, k) :: r, h, acc, x, y, c, hl, hi, h1, h2 => by
    unfold cellsFrom at h1 h2
    split at h1
    · rename_i hk
      rw [if_pos hk] at h2
      rw [← Heap.size_push h { cls := .type "cell", data := .cell none }] at h1 h2
      refine cells_inj (h := h.push _) (fun p hp => ?_) (fun x y c a b => ?_) h1 h2
      · rw [Heap.size_push]
        rcases List.mem_cons.mp hp with rfl | hp
        · exact Nat.lt_succ_self _
        · exact Nat.lt_succ_of_lt (hl p hp)
      · rcases List.mem_cons.mp a with e | a <;> rcases List.mem_cons.mp b with e' | b
        · cases e; cases e'; rfl
        · cases e; exact absurd (hl _ b) (Nat.lt_irrefl _)
        · cases e'; exact absurd (hl _ a) (Nat.lt_irrefl _)
        · exact hi _ _ _ a b
    · rename_i hk
      rw [if_neg hk] at h2
      exact cells_inj hl hi h1 h2

theorem newEnv_comp {M : Model} {A : Around} {E : Value → Shared → Prop} {s : Shared} {scope : Scope} {globals : Addr} {closure : List (Str × Addr)} {qual : Str} {func : Option Addr} {code : Value} {around : Env} {builtins : Addr} {Q : Env → Shared → Prop}
    (h : Q (newEnv scope s.heap.objs.size globals (cellsFrom (s.heap.objs.size + 1) scope.names closure) qual func code (some around) builtins)
      { s with heap := pushCells (s.heap.push { cls := .type "dict", data := .dict #[] }) scope.names }) :
    wpAny M A (newFunctionEnv scope globals closure [] qual func code (some around) builtins) Q E s := by
  simp only [newFunctionEnv, Option.isSome_some, if_true]
  refine wpAny_bind (wpAny_alloc ?_)
  refine wpAny_bind (wpAny_layCells _ (fun n k c => rfl) scope.names closure _ _ ?_)
  rw [show ({ s with heap := s.heap.push { cls := .type "dict", data := .dict #[] } } : Shared).heap.objs.size = s.heap.objs.size + 1 from Heap.size_push ..]
  rw [List.forIn_nil]
  exact wpAny_bind (wpAny_pure (wpAny_pure h))

/-- every name of the written scope, in the scope that runs -/
theorem lookup_relS {sc : Scope} : ∀ {names : List (Str × NameKind)} {x : Str} {k : NameKind},
    (names.map fun (n, k) => if (k == NameKind.free && sc.kind == .function && sc.names.lookup n == some .cell) then (n, NameKind.cell) else (n, k)).lookup x = some k →
    ∃ k', names.lookup x = some k' ∧ (k = k' ∨ (k' = .free ∧ k = .cell))
  | [], _, _, h => by simp at h
  | (n, k₀) :: r, x, k, h => by
    have ih := @lookup_relS sc r x k
    have h' : List.lookup x ((if (k₀ == NameKind.free && sc.kind == .function && sc.names.lookup n == some .cell) = true then (n, NameKind.cell) else (n, k₀)) :: (r.map _)) = some k := h
    cases hx : x == n with
    | true =>
      simp only [List.lookup_cons, hx]
      by_cases hc : (k₀ == NameKind.free && sc.kind == .function && sc.names.lookup n == some .cell) = true
      · rw [if_pos hc] at h'
        simp only [List.lookup_cons, hx] at h'
        cases h'
        simp only [Bool.and_eq_true, beq_iff_eq] at hc
        exact ⟨k₀, rfl, .inr ⟨hc.1.1, rfl⟩⟩
      · rw [if_neg hc] at h'
        simp only [List.lookup_cons, hx] at h'
        cases h'
        exact ⟨_, rfl, .inl rfl⟩
    | false =>
      simp only [List.lookup_cons, hx]
      by_cases hc : (k₀ == NameKind.free && sc.kind == .function && sc.names.lookup n == some .cell) = true
      · rw [if_pos hc] at h'
        simp only [List.lookup_cons, hx] at h'
        exact ih h'
      · rw [if_neg hc] at h'
        simp only [List.lookup_cons, hx] at h'
        exact ih h'
/-- the names of a comprehension's block: its own (with their places in N), or captured -/
structure BlkOk (N : List Str) (sc scope : Scope) (own : List (Str × Nat)) : Prop where
  kind : scope.kind = .function
  uniq : ∀ y ∈ scope.names, scope.names.lookup y.1 = some y.2
  ix : ∀ p ∈ own, N[p.2]? = some p.1
  free : ∀ y ∈ scope.names, y.2 = .free → sc.names.lookup y.1 = some .cell ∨ sc.names.lookup y.1 = some .free
  own : ∀ y ∈ scope.names, y.2 = .local ∨ y.2 = .cell → y.1 ∈ own.map (·.1) ∨ y.1 ∉ N
/-- the slots of the block's own names forgotten -/
def wipe (σ : St) : List Nat → St
  | [] => σ
  | v :: vs => (wipe σ vs).set v none
theorem wipe_length (σ : St) : ∀ vs : List Nat, (wipe σ vs).length = σ.length
  | [] => rfl
  | v :: vs => by unfold wipe; rw [List.length_set, wipe_length σ vs]
theorem wipe_some {σ : St} {i : Nat} {x : V} : ∀ {vs : List Nat}, (wipe σ vs)[i]? = some (some x) → σ[i]? = some (some x) ∧ i ∉ vs
  | [], h => ⟨h, by simp⟩
  | v :: vs, h => by
    unfold wipe at h
    by_cases hi : v = i
    · subst hi
      by_cases hv : v < (wipe σ vs).length
      · rw [List.getElem?_set_self hv] at h; cases h
      · rw [List.getElem?_eq_none (by simpa using hv)] at h; cases h
    · rw [List.getElem?_set_ne hi] at h
      obtain ⟨h1, h2⟩ := wipe_some h
      exact ⟨h1, by simp only [List.mem_cons, not_or]; exact ⟨fun e => hi e.symm, h2⟩⟩

/-- the context of a block that starts at s, its iterator's objects at fp -/
abbrev Cx.blk (X : Cx) (s : Shared) (H : Hp) (scope : Scope) (cenv : Env) (fp : List Addr) : Cx := { X with s_0 := s, H_0 := H, env := cenv, outer := X.stack, ex := fp, fn := fun x => scope.names.lookup x == some .cell, pn := [], xe := fun _ _ => False }
section
variable {X : Cx} {pins : List (Addr × Obj)} {σ : St} {H : Hp} {s : Shared}
theorem block_start {scope : Scope} {own : List (Str × Nat)} {fp : List Addr} (I : Inv X pins σ H s) (ok : BlkOk X.N X.env.scope scope own) (hN : X.N.Nodup) (hfp : ∀ b ∈ fp, FpOk X pins H b ∧ b < s.heap.objs.size) :
    Inv (X.blk s H scope (compEnvC scope (cellsFrom (s.heap.objs.size + 1) scope.names (cloFrom X.env.cells scope.names [])) s.heap.objs.size X.env) fp) [] (wipe σ (own.map (·.2))) H { s with heap := pushCells (s.heap.push { cls := .type "dict", data := .dict #[] }) scope.names } := by
  have hfree : ∀ y ∈ scope.names, y.2 = .free → ∃ c, X.env.cells.lookup y.1 = some c := fun y hy e => by
    rcases ok.free y hy e with k | k
    · exact I.ok.has _ (.inl k)
    · exact I.ok.has _ (.inr k)
  generalize hcenv : compEnvC scope (cellsFrom (s.heap.objs.size + 1) scope.names (cloFrom X.env.cells scope.names [])) s.heap.objs.size X.env = cenv
  have kp : ∀ b o, s.heap.get? b = some o → (pushCells (s.heap.push { cls := .type "dict", data := .dict #[] }) scope.names).get? b = some o := fun b o e => pushCells_keeps _ _ _ _ (Heap.get?_push_of_some _ e)
  have hL : cenv.locals = s.heap.objs.size := by rw [← hcenv]; rfl
  have hcl : cenv.cells = cellsFrom (s.heap.objs.size + 1) scope.names (cloFrom X.env.cells scope.names []) := by rw [← hcenv]; rfl
  have hsc : cenv.scope = relS scope X.env.scope := by rw [← hcenv]; rfl
  rw [← Heap.size_push s.heap { cls := .type "dict", data := .dict #[] }] at hcl
  have cm : ∀ {y c}, (y, c) ∈ cloFrom X.env.cells scope.names [] → X.env.cells.lookup y = some c ∧ c < s.heap.objs.size := fun {y c} hm => by
    rcases cloFrom_mem hm with hm | ⟨h1, rfl⟩
    · cases hm
    · obtain ⟨c, hc⟩ := hfree _ h1 rfl
      rw [hc]
      obtain ⟨w, z⟩ := I.cell _ _ hc
      exact ⟨rfl, z.lt⟩
  have mem : ∀ {y c}, cenv.cells.lookup y = some c → (X.env.cells.lookup y = some c ∧ c < s.heap.objs.size) ∨ (s.heap.objs.size + 1 ≤ c ∧ CellAt (pushCells (s.heap.push { cls := .type "dict", data := .dict #[] }) scope.names) c none) := fun {y c} e => by
    rw [hcl] at e
    rcases cells_mem (PySem.mem_of_lookup e) with hm | ⟨_, h2, h3⟩
    · exact .inl (cm hm)
    · rw [Heap.size_push] at h2; exact .inr ⟨h2, h3⟩
  have look : ∀ {y}, scope.names.lookup y = some .free → ∃ c, cenv.cells.lookup y = some c ∧ X.env.cells.lookup y = some c := fun {y} hl => by
    have hy : (y, NameKind.free) ∈ scope.names := PySem.mem_of_lookup hl
    obtain ⟨c', e'⟩ := mem_lookup (cells_acc (names := scope.names) (n := (s.heap.push { cls := .type "dict", data := .dict #[] }).objs.size) (cloFrom_has (cells := X.env.cells) (acc := []) hy))
    rw [← hcl] at e'
    refine ⟨c', e', ?_⟩
    rw [hcl] at e'
    rcases cells_mem (PySem.mem_of_lookup e') with hm | ⟨h1, _, _⟩
    · exact (cm hm).1
    · have := ok.uniq _ h1
      rw [hl] at this; cases this
  have okB : (X.blk s H scope cenv fp).Ok := by
    refine ⟨I.ok.mod, by show cenv.scope.kind = _; rw [hsc]; exact ok.kind, by show cenv.globals = _; rw [← hcenv]; exact I.ok.glob, by show cenv.builtins = _; rw [← hcenv]; exact I.ok.blt, by show s.heap.objs.size ≤ cenv.locals; rw [hL]; exact Nat.le_refl _,
      fun y z c e1 e2 => ?_, fun y hy => ?_, fun y c z e => ?_, I.ok.hd, I.ok.frames, .inl rfl, fun b hb => ⟨?_, fun y c e z => ?_⟩, I.bs, Nat.le_trans I.ok.bsz I.sz, fun b o e hb => ?_, fun b hb z => ?_, I.stack, I.stkFree⟩
    · have e1 : cenv.cells.lookup y = some c := e1
      have e2 : cenv.cells.lookup z = some c := e2
      rw [hcl] at e1 e2
      refine cells_inj (fun p hp => ?_) (fun y z c a b => I.ok.inj y z c (cm a).1 (cm b).1) (PySem.mem_of_lookup e1) (PySem.mem_of_lookup e2)
      rw [Heap.size_push]
      exact Nat.lt_succ_of_lt (cm (y := p.1) (c := p.2) hp).2
    · show ∃ c, cenv.cells.lookup y = some c
      have key : ∀ k, cenv.kindOf y = some k → (k = .cell ∨ k = .free) → ∃ c, cenv.cells.lookup y = some c := fun k hk hk' => by
        unfold Env.kindOf at hk
        rw [hsc] at hk
        obtain ⟨k', e, r⟩ := lookup_relS hk
        have : k' = .cell ∨ k' = .free := by
          rcases r with rfl | ⟨rfl, _⟩
          · exact hk'
          · exact .inr rfl
        rcases this with rfl | rfl
        · obtain ⟨c, hm⟩ := cells_has (n := (s.heap.push { cls := .type "dict", data := .dict #[] }).objs.size) (acc := cloFrom X.env.cells scope.names []) (PySem.mem_of_lookup e)
          obtain ⟨c', e'⟩ := mem_lookup hm
          exact ⟨c', by rw [hcl]; exact e'⟩
        · obtain ⟨c, h1, _⟩ := look e
          exact ⟨c, h1⟩
      rcases hy with hy | hy
      · exact key _ hy (.inl rfl)
      · exact key _ hy (.inr rfl)
    · have z : (scope.names.lookup y == some NameKind.cell) = true := z
      have z : scope.names.lookup y = some .cell := by simpa using z
      have e : cenv.cells.lookup y = some c := e
      rw [hcl] at e
      rcases cells_mem (PySem.mem_of_lookup e) with hm | ⟨_, h2, _⟩
      · rcases cloFrom_mem hm with hm | ⟨h1, _⟩
        · cases hm
        · have q := ok.uniq _ h1
          rw [z] at q; cases q
      · rw [Heap.size_push] at h2
        exact Nat.le_of_succ_le h2
    · show b ≠ cenv.locals
      rw [hL]; exact Nat.ne_of_lt (hfp b hb).2
    · have e : cenv.cells.lookup y = some c := e
      rcases mem e with ⟨h1, _⟩ | ⟨h1, _⟩
      · exact (hfp b hb).1.2.2.2.2.1 y c h1 z
      · have h2 : s.heap.objs.size + 1 ≤ b := by rw [← z]; exact h1
        exact absurd (Nat.lt_of_lt_of_le (hfp b hb).2 (Nat.le_of_succ_le h2)) (Nat.lt_irrefl _)
    · rcases (hfp b hb).1.2.2.2.1 with z | z
      · exact I.ok.noex b o e z
      · exact absurd (Nat.lt_of_lt_of_le (Heap.lt_size e) (Nat.le_trans I.ok.bsz z)) (Nat.lt_irrefl _)
    · rcases List.mem_cons.mp (I.stkSub b z) with z | z
      · exact (hfp b hb).1.2.1 z
      · exact (hfp b hb).1.2.2.1 z
  refine ⟨okB, rfl, I.bare, Un.kept kp, ⟨fun _ => none, ?_, fun i y av e1 e2 e3 => ?_⟩, fun y c e => ?_, ?_, fun y c e => ?_, fun p hp => ?_, I.hok.kept kp, by rw [wipe_length]; exact I.len⟩
  · show Heap.Ns _ cenv.locals _
    rw [hL]
    exact Heap.Ns.keeps (Heap.Ns.new ..) fun b o e => pushCells_keeps _ _ _ _ e
  · obtain ⟨e2, hne⟩ := wipe_some e2
    have hfr : scope.names.lookup y = some .free ∧ (cenv.kindOf y = some .cell ∨ cenv.kindOf y = some .free) := by
      have key : ∀ k, cenv.scope.names.lookup y = some k → k = .local ∨ k = .cell ∨ k = .free → scope.names.lookup y = some .free ∧ (cenv.kindOf y = some .cell ∨ cenv.kindOf y = some .free) := fun k hk hk' => by
        have hk0 := hk
        rw [hsc] at hk
        obtain ⟨k', e, r⟩ := lookup_relS hk
        have no : ¬ (k' = .local ∨ k' = .cell) := fun hh => by
          rcases ok.own _ (PySem.mem_of_lookup e) hh with e' | e'
          · obtain ⟨p, hp, hpy⟩ := List.mem_map.mp e'
            have e3 := ok.ix p hp
            have : p.1 = y := hpy
            rw [this] at e3
            exact hne (List.mem_map.mpr ⟨p, hp, nodup_ix hN e3 e1⟩)
          · exact e' (List.mem_of_getElem? e1)
        rcases r with rfl | ⟨rfl, rfl⟩
        · rcases hk' with rfl | rfl | rfl
          · exact absurd (.inl rfl) no
          · exact absurd (.inr rfl) no
          · exact ⟨e, .inr hk0⟩
        · exact ⟨e, .inl hk0⟩
      have e3 : Vis cenv.scope y := e3
      rcases e3 with e3 | e3 | e3
      · exact key _ e3 (.inl rfl)
      · exact key _ e3 (.inr (.inl rfl))
      · exact key _ e3 (.inr (.inr rfl))
    obtain ⟨m, hn, hl⟩ := I.loc
    have hvis : Vis X.env.scope y := (ok.free _ (PySem.mem_of_lookup hfr.1) rfl).elim (fun k => .inr (.inl k)) (fun k => .inr (.inr k))
    obtain ⟨w, r, q⟩ := hl i y av e1 e2 hvis
    refine ⟨w, r, .inr ⟨hfr.2, ?_⟩⟩
    obtain ⟨c, h1, h2⟩ := look hfr.1
    rcases q with ⟨k, _⟩ | ⟨_, c', e', z⟩
    · have k : X.env.scope.names.lookup y = some .local := k
      rcases ok.free _ (PySem.mem_of_lookup hfr.1) rfl with k' | k' <;> rw [show X.env.scope.names.lookup y = _ from k'] at k <;> cases k
    · rw [h2] at e'; cases e'
      exact ⟨c, h1, z.keeps kp⟩
  · have e : cenv.cells.lookup y = some c := e
    rcases mem e with ⟨h1, _⟩ | ⟨_, z⟩
    · obtain ⟨w, z⟩ := I.cell y c h1
      exact ⟨w, z.keeps kp⟩
    · exact ⟨_, z⟩
  · show H cenv.locals = none
    rw [hL]; exact I.hok.fresh (Nat.le_refl _)
  · have e : cenv.cells.lookup y = some c := e
    rcases mem e with ⟨h1, _⟩ | ⟨h1, _⟩
    · exact I.freeC y c h1
    · exact I.hok.fresh (Nat.le_of_succ_le h1)
  · exact absurd (show p ∈ ([] : List (Addr × Obj)) ++ [] from hp) (by simp)

/-- an item appended to a tracked list -/
theorem app_ok {E : Value → Shared → Prop} {D : Addr} {xs : List V} {y : V} {v : Value} {Q : Value → Shared → Prop} (I : Inv X pins σ H s) (hD : H D = some (.lst xs)) (hz : xs.length < sizeLine) (r : RelV y v)
    (h : ∀ s', Inv X pins σ (upd H D (.lst (xs ++ [y]))) s' → Q .none s') : wpAny (model X.prog X.w) X.A (call (.builtin "list.append") [.ref D, v]) Q E s := by
  obtain ⟨hz', its, n, ri, e⟩ := I.hok D _ hD
  have hl := ri.length
  refine append_at (hsz := by rw [List.size_toArray]; omega) e fun h' sb ho' => ?_
  refine h { s with heap := h' } (I.write (t' := s.toks) (by rw [hD]; trivial) (.inl rfl) (fun b u hb q => (sb.2 b hb).trans q) ⟨_, ho'⟩ ⟨by rw [List.length_append]; exact hz, its ++ [v], n + 1, ri.append (.cons r .nil), ?_⟩)
  rw [ho']
  simp

/-- a clause's tests -/
def PTs (X : Cx) (ifs : List Expr) (t : TT) : Prop :=
  ∀ (pins : List (Addr × Obj)) (s : Shared) (σ : St) (H : Hp) (Q : Bool → Hp → Prop), Inv X pins σ H s → t σ H Q →
    wpAny (model X.prog X.w) X.A (forIn ifs true fun c r => if r = true then do let ok ← isTrue c X.env (eval c X.env); pure (ForInStep.yield ok) else pure (ForInStep.yield r)) (TP X pins σ Q) X.xe s
def tYes : TT := fun _ H Q => Q true H
theorem pts_nil : PTs X [] tYes := fun _ _ _ H _ I h => wpAny_tests_nil ⟨H, I, h⟩
end

theorem thnF {α : Type} {t : Sem α} {Q Q' : α → Shared → Prop} {M : Model} {A : Around} {E : Value → Shared → Prop} {s : Shared} (h : wpAny M A t Q (fun _ _ => False) s) (hQ : ∀ a s, Q a s → Q' a s) : wpAny M A t Q' E s := wpAny_mono h hQ fun _ _ z => False.elim z

/-- the loop of a list comprehension's block, the target of any form (codeAny_compLoop_tests asks a target that no tuple goes to; statement and proof follow it, PyProof/CompMap.lean:41-61, with the step letOwnedTupleGo kept) -/
theorem compLoop_any {prog : Program} {w : World} {A : Around} {R : Result → Shared → Prop} {s : Shared} {elt target iter : Expr} {ifs : List Expr} {scope : Scope} {pos : Pos} {it acc : Value} {env : Env} (I : Nat → Shared → Prop)
    (turn : ∀ n s, I n s → wpAny (model prog w) A (pyNext it) (fun r s₁ => match r with
      | none => R (.ok .next) s₁
      | some v => wpAny (model prog w) A (letOwnedTupleGo target it v) (fun _ s₁' => wpAny (model prog w) A (assign target env v) (fun _ s₂ =>
          wpAny (model prog w) A (forIn ifs true fun c r => if r = true then do let ok ← isTrue c env (eval c env); pure (ForInStep.yield ok) else pure (ForInStep.yield r)) (fun ok s₃ =>
            if ok = true then wpAny (model prog w) A (eval elt env) (fun x s₄ =>
              wpAny (model prog w) A (call (.builtin "list.append") [acc, x]) (fun _ s₅ => ∃ m, m < n ∧ I m s₅) (notedBy (model prog w) A env fun e s' => R (.error e) s') s₄) (notedBy (model prog w) A env fun e s' => R (.error e) s') s₃
            else ∃ m, m < n ∧ I m s₃) (notedBy (model prog w) A env fun e s' => R (.error e) s') s₂) (notedBy (model prog w) A env fun e s' => R (.error e) s') s₁') (notedBy (model prog w) A env fun e s' => R (.error e) s') s₁) (notedBy (model prog w) A env fun e s' => R (.error e) s') s)
    (n : Nat) (h : I n s) :
    codeAny (model prog w) A (.compLoop (.ListComp elt [⟨target, iter, ifs, 0⟩] scope pos) 0 it acc env) R s := by
  refine codeAny_loop rfl I (fun n s hI => ?_) n h
  show wpAny _ A ((compTurn (.ListComp elt [⟨target, iter, ifs, 0⟩] scope pos) 0 it acc env).onRaise (fun x => do noteFrame x env; theTreesLotGoes x)) _ _ s
  refine wpAny_noted ?_
  rw [compTurn_list]
  refine wpAny_bind (wpAny_standAt (wpAny_bind (wpAny_mono (turn n s hI) (fun r s₁ h₁ => ?_) fun _ _ h' => h')))
  cases r with
  | none => exact wpAny_pure h₁
  | some v =>
    refine wpAny_bind (wpAny_mono h₁ (fun _ s₁' h₁' => ?_) fun _ _ h' => h')
    refine wpAny_bind (wpAny_mono h₁' (fun _ s₂ h₂ => wpAny_bind (wpAny_mono h₂ (fun ok s₃ h₃ => ?_) fun _ _ h' => h')) fun _ _ h' => h')
    cases ok with
    | false => exact wpAny_pure ⟨rfl, h₃⟩
    | true =>
      exact wpAny_bind (wpAny_bind (wpAny_mono h₃ (fun x s₄ h₄ => wpAny_bind (wpAny_mono h₄ (fun _ s₅ h₅ => wpAny_pure (wpAny_pure ⟨rfl, h₅⟩)) fun _ _ h' => h')) fun _ _ h' => h'))

section
variable {X : Cx}
/-- [elt for target in iter if ..]: D the new list; W by the turn and a measure, Nx what a turn is to reach -/
def tLc (wi : TI) (g : TG) (tt : TT) (te : TE) (vs : List Nat) : TE := fun σ H Q => wi σ H fun J H1 => ∀ D, H1 D = none → ∃ W : Nat → Nat → Hp → Prop, (∃ m, W 0 m (upd H1 D (.lst []))) ∧ ∀ i m H, W i m H →
  (J.stop i H ∧ Q (.ref D) H) ∨ (J.go i H ∧ ∃ Nx : Hp → Prop, (∀ H', Nx H' → ∃ m', m' < m ∧ W (i + 1) m' H') ∧ ∀ x H', J.yld i H x H' → g x (wipe σ vs) H' fun σ2 H2 => wipe σ2 vs = wipe σ vs ∧ tt σ2 H2 fun b H3 =>
    if b = true then te σ2 H3 fun y H4 => ∃ acc, H4 D = some (.lst acc) ∧ acc.length < sizeLine ∧ Nx (upd H4 D (.lst (acc ++ [y]))) else Nx H3)
theorem lc_core {pins : List (Addr × Obj)} {s : Shared} {σ : St} {H : Hp} {Q : VK} {elt tg iter : Expr} {ifs : List Expr} {scope : Scope} {own : List (Str × Nat)} {pos pos' : Pos} {wi : TI} {g : TG} {tt : TT} {te : TE} {use : Option (Value → Sem Unit)} {Qf : Value → Shared → Prop}
    (hc : X.calm = true) (hN : X.N.Nodup) (I : Inv X pins σ H s) (hi : PI X tg iter wi) (ok : BlkOk X.N X.env.scope scope own)
    (hg : ∀ (s : Shared) (H : Hp) (C : Addr) (cl : List (Str × Addr)) (fp : List Addr), PG (X.blk s H scope (compEnvC scope cl C X.env) fp) tg g) (ht : ∀ (s : Shared) (H : Hp) (C : Addr) (cl : List (Str × Addr)) (fp : List Addr), PTs (X.blk s H scope (compEnvC scope cl C X.env) fp) ifs tt)
    (he : ∀ (s : Shared) (H : Hp) (C : Addr) (cl : List (Str × Addr)) (fp : List Addr), PE (X.blk s H scope (compEnvC scope cl C X.env) fp) elt te) (hs : ∀ x, foldedSetIterable iter X.env x = pure x)
    (h : tLc wi g tt te (own.map (·.2)) σ H Q)
    (hRR : ∀ D C s' m H', Inv X pins σ H' s' → Q (.ref D) H' → s'.heap.Ns C m → FpOk X pins H' C → compPost (model X.prog X.w) X.A X.xe use Qf (.ref D) C (.ok .next) s') :
    wpAny (model X.prog X.w) X.A (comprehension (.ListComp elt [⟨tg, iter, ifs, 0⟩] scope pos) scope X.env pos' (newList []) false (eval iter X.env) use) Qf X.xe s := by
  have hfree : ∀ y ∈ scope.names, y.2 = .free → ∃ c, X.env.cells.lookup y.1 = some c := fun y hy e => by
    rcases ok.free y hy e with k | k
    · exact I.ok.has _ (.inl k)
    · exact I.ok.has _ (.inr k)
  refine wpAny_comprehension_free (use := use) rfl hs (closure_ok hfree) ok.kind (fun y hy e => by rw [ok.uniq y hy, e])
    (thn (hi pins s σ H _ I h) fun xv s1 hx => thn hx fun itv s2 h2 => ?_)
  obtain ⟨it, fp, tn, J, H2, e, I2, T, st2, f2, q⟩ := h2
  subst e
  refine wpAny_newObj_type (newEnv_comp ?_) (by show 0 ≤ sizeLine; decide)
  generalize hD : s2.heap.objs.size = D
  have hDn : H2 D = none := I2.hok.fresh (Nat.le_of_eq hD)
  obtain ⟨W, ⟨m0, w0⟩, turn⟩ := q D hDn
  -- the new list
  generalize hs3 : ({ s2 with heap := s2.heap.push { cls := .type "list", data := .seq ([] : List Value).toArray } } : Shared) = s3
  have I3 : Inv X pins σ (upd H2 D (.lst [])) s3 := by
    rw [← hs3]
    refine I2.laid (t' := s2.toks) (fun b o e => Heap.get?_push_of_some _ e) (Nat.le_of_eq hD) ⟨Nat.zero_le _, [], 0, .nil, ?_⟩
    rw [← hD]
    exact Heap.get?_push_size _ rfl
  have h3 : s3.heap = s2.heap.push { cls := .type "list", data := .seq ([] : List Value).toArray } := by rw [← hs3]
  have sz : ∀ b ∈ fp, b < s2.heap.objs.size := fun b hb => by
    obtain ⟨o, e, _⟩ := T.obj _ _ st2 b hb
    exact Heap.lt_size e
  have f3 : ∀ b ∈ fp, FpOk X pins (upd H2 D (.lst [])) b ∧ b < s3.heap.objs.size := fun b hb => by
    have hlt := sz b hb
    refine ⟨⟨?_, (f2 b hb).2⟩, by rw [h3, Heap.size_push]; exact Nat.lt_succ_of_lt hlt⟩
    rw [upd_ne (by rw [← hD]; exact Nat.ne_of_lt hlt)]
    exact (f2 b hb).1
  have st3 : tn 0 s3.heap := T.keep _ _ _ st2 fun b _ o e => by rw [h3]; exact Heap.get?_push_of_some _ e
  have I4 := block_start I3 ok hN f3
  have pg := hg s3 (upd H2 D (.lst [])) s3.heap.objs.size (cellsFrom (s3.heap.objs.size + 1) scope.names (cloFrom X.env.cells scope.names [])) fp
  have pt := ht s3 (upd H2 D (.lst [])) s3.heap.objs.size (cellsFrom (s3.heap.objs.size + 1) scope.names (cloFrom X.env.cells scope.names [])) fp
  have pe := he s3 (upd H2 D (.lst [])) s3.heap.objs.size (cellsFrom (s3.heap.objs.size + 1) scope.names (cloFrom X.env.cells scope.names [])) fp
  show codeAny _ _ (.compStart (.ListComp elt [⟨tg, iter, ifs, 0⟩] scope pos) 0 (.ref it) (.ref D) (compEnvC scope (cellsFrom (s3.heap.objs.size + 1) scope.names (cloFrom X.env.cells scope.names [])) s3.heap.objs.size X.env)) (compPost (model X.prog X.w) X.A X.xe use Qf (.ref D) s3.heap.objs.size) { s3 with heap := pushCells (s3.heap.push { cls := .type "dict", data := .dict #[] }) scope.names }
  have nfp : ∀ b ∈ fp, (upd H2 D (.lst [])) b = none := fun b hb => (f3 b hb).1.1
  generalize hce : compEnvC scope (cellsFrom (s3.heap.objs.size + 1) scope.names (cloFrom X.env.cells scope.names [])) s3.heap.objs.size X.env = ce at I4 pg pt pe ⊢
  have cL : ce.locals = s3.heap.objs.size := by subst hce; rfl
  generalize hH3 : upd H2 D (.lst []) = H3 at I3 I4 pg pt pe w0 nfp f3
  generalize hs4 : ({ s3 with heap := pushCells (s3.heap.push { cls := .type "dict", data := .dict #[] }) scope.names } : Shared) = s4 at I4 ⊢
  have st4 : tn 0 s4.heap := T.keep _ _ _ st3 fun b _ o e => by rw [← hs4]; exact pushCells_keeps _ _ _ _ (Heap.get?_push_of_some _ e)
  have stat : ∀ {σ' : St} {H' : Hp} {s' : Shared}, Inv (X.blk s3 H3 scope ce fp) [] σ' H' s' → (∀ b ∈ fp, H' b = none) → ∀ b ∈ fp, FpOk (X.blk s3 H3 scope ce fp) [] H' b := fun {σ' H' s'} I' hn b hb =>
    ⟨hn b hb, (I'.ok.exf b hb).1, I'.ok.exfs b hb, .inl hb, fun x c e => (I'.ok.exf b hb).2 x c e, fun p hp => absurd (show p ∈ ([] : List (Addr × Obj)) ++ [] from hp) (by simp)⟩
  have loop : codeAny (model X.prog X.w) X.A (.compLoop (.ListComp elt [⟨tg, iter, ifs, 0⟩] scope pos) 0 (.ref it) (.ref D) ce) (compPost (model X.prog X.w) X.A X.xe use Qf (.ref D) s3.heap.objs.size) s4 := by
    refine compLoop_any (fun n s' => ∃ i H', Inv (X.blk s3 H3 scope ce fp) [] (wipe σ (own.map (·.2))) H' s' ∧ tn i s'.heap ∧ (∀ b ∈ fp, H' b = none) ∧ W i n H') ?_ m0 ⟨0, H3, I4, st4, nfp, w0⟩
    rintro n s5 ⟨i, H5, I5, st5, n5, w5⟩
    rcases turn i n H5 w5 with ⟨stop, qq⟩ | ⟨go, Nx, hNx, step⟩
    · have td := T.done (X.blk s3 H3 scope ce fp) rfl rfl rfl hc i [] s5 _ H5 (fun _ _ => False) I5 (stat I5 n5) st5 stop
      refine thnF td fun r s6 ⟨hr, I6⟩ => ?_
      subst hr
      -- back in the def's context
      have I7 : Inv X pins σ H5 s6 := I3.call' (ch := fp) I6.os I6.base I6.hok I6.bare fun b hb => ⟨(f3 b hb).1.2.2.2.1, (f3 b hb).1.2.1, (f3 b hb).1.2.2.2.2.1, (f3 b hb).1.2.2.2.2.2⟩
      have nC : H5 s3.heap.objs.size = none := by
        have z : H5 ce.locals = none := I6.free
        rw [cL] at z
        exact z
      obtain ⟨m, hn, _⟩ := I6.loc
      have hn : s6.heap.Ns ce.locals m := hn
      rw [cL] at hn
      exact hRR D s3.heap.objs.size s6 m H5 I7 qq hn (I3.fpOk (Nat.le_refl _) nC)
    · have ti := T.item (X.blk s3 H3 scope ce fp) rfl rfl rfl hc i [] s5 _ H5 (fun _ _ => False) I5 (stat I5 n5) st5 go
      refine thnF ti fun r s6 ⟨u, hr, h6⟩ => ?_
      subst hr
      refine thnF h6 fun _ s7 ⟨x, H7, I7, r7, y7, st7, n7⟩ => ?_
      have I7' := I7.pinned (stat I7 n7) (T.obj _ _ st7)
      refine thnF (pg _ s7 _ H7 x u _ I7' r7 (step x H7 y7)) fun _ s8 ⟨σ8, H8, I8, hw8, q8⟩ => ?_
      refine thnF (pt _ s8 σ8 H8 _ I8 q8) fun b s9 ⟨H9, I9, q9⟩ => ?_
      -- the turn's end
      have fin : ∀ {s' : Shared} {H' : Hp}, Inv (X.blk s3 H3 scope ce fp) ([] ++ pinsAt fp s7.heap) σ8 H' s' → Nx H' → ∃ m, m < n ∧ ∃ i H', Inv (X.blk s3 H3 scope ce fp) [] (wipe σ (own.map (·.2))) H' s' ∧ tn i s'.heap ∧ (∀ b ∈ fp, H' b = none) ∧ W i m H' := fun {s' H'} I' nx => by
        obtain ⟨m', hm, w'⟩ := hNx H' nx
        have pin' : ∀ b ∈ fp, ∀ o, s7.heap.get? b = some o → s'.heap.get? b = some o ∧ H' b = none := fun b hb o e =>
          let z := I'.pin (b, o) (List.mem_append_right _ (List.mem_append_right _ (mem_pinsAt hb e)))
          ⟨z.1, z.2.1⟩
        have hl : (wipe σ (own.map (·.2))).length = σ8.length := by rw [← hw8, wipe_length]
        refine ⟨m', hm, i + 1, H', (I'.unpinned (pins := [])).weak hl (fun j v e => ?_), T.keep _ _ _ st7 fun b hb o e => (pin' b hb o e).1, fun b hb => ?_, w'⟩
        · rw [← hw8] at e
          exact (wipe_some e).1
        · obtain ⟨o, e, _⟩ := T.obj _ _ st7 b hb
          exact (pin' b hb o e).2
      cases b with
      | false =>
        simp only [Bool.false_eq_true, if_false] at q9 ⊢
        exact fin I9 q9
      | true =>
        simp only [if_true] at q9 ⊢
        refine thnF (pe _ s9 σ8 H9 _ I9 q9) fun z s10 ⟨yv, H10, I10, r10, acc, hD10, hz10, nx⟩ => ?_
        exact app_ok (X := X.blk s3 H3 scope ce fp) I10 hD10 hz10 r10 fun s11 I11 => fin I11 nx
  exact codeAny_compStart_list loop (T.self X.A 0 _ _ _ st4 loop)
/-- as a value -/
theorem pe_lc {elt tg iter : Expr} {ifs : List Expr} {scope : Scope} {own : List (Str × Nat)} {pos : Pos} {wi : TI} {g : TG} {tt : TT} {te : TE} (hc : X.calm = true) (hN : X.N.Nodup) (hi : PI X tg iter wi) (ok : BlkOk X.N X.env.scope scope own)
    (hg : ∀ (s : Shared) (H : Hp) (C : Addr) (cl : List (Str × Addr)) (fp : List Addr), PG (X.blk s H scope (compEnvC scope cl C X.env) fp) tg g) (ht : ∀ (s : Shared) (H : Hp) (C : Addr) (cl : List (Str × Addr)) (fp : List Addr), PTs (X.blk s H scope (compEnvC scope cl C X.env) fp) ifs tt)
    (he : ∀ (s : Shared) (H : Hp) (C : Addr) (cl : List (Str × Addr)) (fp : List Addr), PE (X.blk s H scope (compEnvC scope cl C X.env) fp) elt te) (hs : ∀ x, foldedSetIterable iter X.env x = pure x := by intro _; rfl) :
    PE X (.ListComp elt [⟨tg, iter, ifs, 0⟩] scope pos) (tLc wi g tt te (own.map (·.2))) := by
  intro pins s σ H Q I h
  rw [eval_ListComp]
  refine lc_core hc hN I hi ok hg ht he hs h fun D C s' m H' I' q hn f => ⟨m, hn, fun h'' sb => ?_⟩
  obtain ⟨f0, f1, f2, f3, f4, f5⟩ := f
  exact ⟨.ref D, H', I'.turned (t' := s'.toks) (fun b o hb e => (sb.2 b hb).trans e) f0 f1 f3 f4 f5, rfl, q⟩
/-- name = [..] on one line, the name a local -/
theorem ps_setLc {i : Nat} {y : Str} {py : Pos} {elt tg iter : Expr} {ifs : List Expr} {scope : Scope} {own : List (Str × Nat)} {pos spos : Pos} {wi : TI} {g : TG} {tt : TT} {te : TE} (hc : X.calm = true) (hN : X.N.Nodup) (hy : X.N[i]? = some y) (hyl : X.env.scope.names.lookup y = some .local)
    (hsw : swapsWith (.ListComp elt [⟨tg, iter, ifs, 0⟩] scope pos) (some (.Name y py)) spos.line X.env = pure true) (hi : PI X tg iter wi) (ok : BlkOk X.N X.env.scope scope own)
    (hg : ∀ (s : Shared) (H : Hp) (C : Addr) (cl : List (Str × Addr)) (fp : List Addr), PG (X.blk s H scope (compEnvC scope cl C X.env) fp) tg g) (ht : ∀ (s : Shared) (H : Hp) (C : Addr) (cl : List (Str × Addr)) (fp : List Addr), PTs (X.blk s H scope (compEnvC scope cl C X.env) fp) ifs tt)
    (he : ∀ (s : Shared) (H : Hp) (C : Addr) (cl : List (Str × Addr)) (fp : List Addr), PE (X.blk s H scope (compEnvC scope cl C X.env) fp) elt te) (hs : ∀ x, foldedSetIterable iter X.env x = pure x := by intro _; rfl) :
    PS X (.Assign [.Name y py] (.ListComp elt [⟨tg, iter, ifs, 0⟩] scope pos) spos) (tAsg (tLc wi g tt te (own.map (·.2))) (gName i)) := by
  intro pins s σ H D I h
  rw [exec_Assign_Name_used _ _ _ _ hsw]
  refine wpAny_bind (wpAny_standAt (wpAny_bind ?_))
  show wpAny _ X.A (do let _ ← comprehension (.ListComp elt [⟨tg, iter, ifs, 0⟩] scope pos) scope X.env (firstIterPos [⟨tg, iter, ifs, 0⟩] pos) (newList []) false (eval iter X.env) (some (assign (.Name y py) X.env))) _ _ s
  have h : tLc wi g tt te (own.map (·.2)) σ H (fun x H1 => gName i x σ H1 D.nx) := h
  refine wpAny_bind (thn (lc_core (Qf := fun _ s' => SP X pins D .next s') hc hN I hi ok hg ht he hs h fun L C s' m H' I' q hn f => ?_) fun _ s' hq => wpAny_pure (wpAny_pure hq))
  show wpAny _ _ (assign (.Name y py) X.env (.ref L)) _ _ _
  refine wpAny_assign_Name (store_ok2 (v := V.ref L) I' hN hy (.inl hyl) rfl (fun s2 I2 ⟨a, sb, ha⟩ => ?_) (.inr hyl))
  obtain ⟨f0, f1, f2, f3, f4, f5⟩ := f
  have haC : C ≠ a := by
    rcases ha with z | z
    · rw [z]; exact f1
    · exact fun e => f4 y a z e.symm
  refine ⟨m, hn.sameBut sb haC, fun h3 sb3 => ?_⟩
  exact ⟨_, H', I2.turned (t' := s2.toks) (fun b o hb e => (sb3.2 b hb).trans e) f0 f1 f3 f4 f5, q⟩
theorem sw_true {elt : Expr} {gs : List Comprehension} {scope : Scope} {pos py : Pos} {y : Str} {l : Nat} {env : Env} (hk : env.scope.kind = .function) (hy : env.scope.names.lookup y = some .local) (hl : (py.line == pos.line) = true)
    (ha : (scope.names.any fun (n, k) => n == y && (k == .local || k == .cell)) = false) : swapsWith (.ListComp elt gs scope pos) (some (.Name y py)) l env = pure true := by
  have ky : env.kindOf y = some .local := hy
  have hb : env.blockKind = .function := by unfold Env.blockKind; rw [hk]; rfl
  unfold swapsWith
  simp only [hb, ky, ha, Expr.pos, hl]
  rfl
end

/-! ### the forms one uses -/
/-- over a range: Pv by the turn and the heap (the new list at D within) -/
theorem lc_range {lo : Int} {n : Nat} {g : TG} {tt : TT} {te : TE} {vs : List Nat} {σ : St} {H1 : Hp} {D : Addr} {Qd : Hp → Prop} (Pv : Nat → Hp → Prop) (h0 : Pv 0 (upd H1 D (.lst [])))
    (hs : ∀ i H, i < n → Pv i H → g (.int (lo + i)) (wipe σ vs) H fun σ2 H2 => wipe σ2 vs = wipe σ vs ∧ tt σ2 H2 fun b H3 =>
      if b = true then te σ2 H3 fun y H4 => ∃ acc, H4 D = some (.lst acc) ∧ acc.length < sizeLine ∧ Pv (i + 1) (upd H4 D (.lst (acc ++ [y]))) else Pv (i + 1) H3) (hd : ∀ H, Pv n H → Qd H) :
    ∃ W : Nat → Nat → Hp → Prop, (∃ m, W 0 m (upd H1 D (.lst []))) ∧ ∀ i m H, W i m H →
      ((Itr lo n).stop i H ∧ Qd H) ∨ ((Itr lo n).go i H ∧ ∃ Nx : Hp → Prop, (∀ H', Nx H' → ∃ m', m' < m ∧ W (i + 1) m' H') ∧ ∀ x H', (Itr lo n).yld i H x H' → g x (wipe σ vs) H' fun σ2 H2 => wipe σ2 vs = wipe σ vs ∧ tt σ2 H2 fun b H3 =>
        if b = true then te σ2 H3 fun y H4 => ∃ acc, H4 D = some (.lst acc) ∧ acc.length < sizeLine ∧ Nx (upd H4 D (.lst (acc ++ [y]))) else Nx H3) := by
  refine ⟨fun i m H => m = n - i ∧ i ≤ n ∧ Pv i H, ⟨n, by simp, Nat.zero_le _, h0⟩, ?_⟩
  rintro i m H ⟨rfl, hi, p⟩
  by_cases hlt : i < n
  · refine .inr ⟨hlt, Pv (i + 1), fun H' p' => ⟨n - (i + 1), by omega, rfl, hlt, p'⟩, fun x H' y => ?_⟩
    obtain ⟨e, y⟩ := y
    subst e y
    exact hs i _ hlt p
  · have e : i = n := by omega
    subst e
    exact .inl ⟨Nat.le_refl _, hd H p⟩
/-- over a list that the block leaves as it is -/
theorem lc_list {K : PySem.W.Frag} {a : Addr} {xs : List V} {g : TG} {tt : TT} {te : TE} {vs : List Nat} {σ : St} {H1 : Hp} {D : Addr} {Qd : Hp → Prop} (Pv : Nat → Hp → Prop) (h0 : Pv 0 (upd H1 D (.lst []))) (hl : ∀ i H, i ≤ xs.length → Pv i H → SqL K H a xs)
    (hs : ∀ i x H, xs[i]? = some x → Pv i H → g x (wipe σ vs) H fun σ2 H2 => wipe σ2 vs = wipe σ vs ∧ tt σ2 H2 fun b H3 =>
      if b = true then te σ2 H3 fun y H4 => ∃ acc, H4 D = some (.lst acc) ∧ acc.length < sizeLine ∧ Pv (i + 1) (upd H4 D (.lst (acc ++ [y]))) else Pv (i + 1) H3) (hd : ∀ H, Pv xs.length H → Qd H) :
    ∃ W : Nat → Nat → Hp → Prop, (∃ m, W 0 m (upd H1 D (.lst []))) ∧ ∀ i m H, W i m H →
      ((Itl K a).stop i H ∧ Qd H) ∨ ((Itl K a).go i H ∧ ∃ Nx : Hp → Prop, (∀ H', Nx H' → ∃ m', m' < m ∧ W (i + 1) m' H') ∧ ∀ x H', (Itl K a).yld i H x H' → g x (wipe σ vs) H' fun σ2 H2 => wipe σ2 vs = wipe σ vs ∧ tt σ2 H2 fun b H3 =>
        if b = true then te σ2 H3 fun y H4 => ∃ acc, H4 D = some (.lst acc) ∧ acc.length < sizeLine ∧ Nx (upd H4 D (.lst (acc ++ [y]))) else Nx H3) := by
  refine ⟨fun i m H => m = xs.length - i ∧ i ≤ xs.length ∧ Pv i H, ⟨xs.length, by simp, Nat.zero_le _, h0⟩, ?_⟩
  rintro i m H ⟨rfl, hi, p⟩
  have q := hl i H hi p
  by_cases hlt : i < xs.length
  · refine .inr ⟨⟨xs, xs[i], q, by simp [hlt]⟩, Pv (i + 1), fun H' p' => ⟨xs.length - (i + 1), by omega, rfl, hlt, p'⟩, fun x H' y => ?_⟩
    obtain ⟨e, y⟩ := y
    subst e
    exact hs i x _ (y xs q) p
  · have e : i = xs.length := by omega
    subst e
    exact .inl ⟨⟨xs, q, Nat.le_refl _⟩, hd H p⟩
def blkC (N : List Str) (sc scope : Scope) (own : List (Str × Nat)) : Bool :=
  (match scope.kind with | .function => true | _ => false) && (scope.names.all fun y => decide (scope.names.lookup y.1 = some y.2)) && (own.all fun p => decide (N[p.2]? = some p.1)) &&
    (scope.names.all fun y => match y.2 with
      | .free => (match sc.names.lookup y.1 with | some .cell => true | some .free => true | _ => false)
      | .local => decide (y.1 ∈ own.map (·.1)) || decide (y.1 ∉ N)
      | .cell => decide (y.1 ∈ own.map (·.1)) || decide (y.1 ∉ N)
      | _ => true)
theorem blkOk_by {N : List Str} {sc scope : Scope} {own : List (Str × Nat)} (h : blkC N sc scope own = true) : BlkOk N sc scope own := by
  unfold blkC at h
  simp only [Bool.and_eq_true, List.all_eq_true, decide_eq_true_eq] at h
  obtain ⟨⟨⟨h1, h2⟩, h3⟩, h4⟩ := h
  refine ⟨?_, h2, h3, fun y hy e => ?_, fun y hy e => ?_⟩
  · split at h1
    · assumption
    · cases h1
  · have q := h4 y hy
    simp only [e] at q
    split at q <;> first | exact .inl (by assumption) | exact .inr (by assumption) | cases q
  · have q := h4 y hy
    rcases e with e | e <;> (simp only [e, Bool.or_eq_true, decide_eq_true_eq] at q; exact q)
end L2

namespace L2
open PySem PySem.Spec PyProof.Rows

section
variable {prog : Program} {w : World} {A : Around} {R : Result → Shared → Prop} {s : Shared} {elt t0 i0 t1 i1 : Expr} {ifs0 ifs1 : List Expr} {scope : Scope} {pos : Pos} {it acc : Value} {env : Env}
end

section
variable {X : Cx}
/-- [elt for tg in iter if .. for tg1 in iter1 if ..]: behind the first clause's store and tests the second source's own loop, from which Nx is reached. vs: the block's names; vs1: those of the second target -/
def tLc2 (wi : TI) (g : TG) (tt : TT) (wi1 : TI) (g1 : TG) (tt1 : TT) (te : TE) (vs vs1 : List Nat) : TE := fun σ H Q => wi σ H fun J H1 => ∀ D, H1 D = none → ∃ W : Nat → Nat → Hp → Prop, (∃ m, W 0 m (upd H1 D (.lst []))) ∧ ∀ i m H, W i m H →
  (J.stop i H ∧ Q (.ref D) H) ∨ (J.go i H ∧ ∃ Nx : Hp → Prop, (∀ H', Nx H' → ∃ m', m' < m ∧ W (i + 1) m' H') ∧ ∀ x H', J.yld i H x H' → g x (wipe σ vs) H' fun σ2 H2 => wipe σ2 vs = wipe σ vs ∧ tt σ2 H2 fun b H3 =>
    if b = true then wi1 σ2 H3 fun J1 H4 => ∃ W1 : Nat → Nat → Hp → Prop, (∃ m, W1 0 m H4) ∧ ∀ j k H, W1 j k H →
      (J1.stop j H ∧ Nx H) ∨ (J1.go j H ∧ ∃ Nx1 : Hp → Prop, (∀ H', Nx1 H' → ∃ k', k' < k ∧ W1 (j + 1) k' H') ∧ ∀ x H', J1.yld j H x H' → g1 x (wipe σ2 vs1) H' fun σ3 H5 => wipe σ3 vs1 = wipe σ2 vs1 ∧ tt1 σ3 H5 fun b H6 =>
        if b = true then te σ3 H6 fun y H7 => ∃ acc, H7 D = some (.lst acc) ∧ acc.length < sizeLine ∧ Nx1 (upd H7 D (.lst (acc ++ [y]))) else Nx1 H6)
    else Nx H3)
end
end L2

/-! SHORT WORDS over the layer: a def of the text, its body, what a loop and a test want. -/
namespace L2
open PySem PySem.Spec PyProof.Rows

/-! ### the text by places -/
/-- the j-th statement of a class's body -/
def inClass (s : Stmt) (j : Nat) : Stmt := match s with
  | .ClassDef _ _ _ body _ _ _ _ _ _ _ => body.getD j (.Pass ⟨0, 0, 0, 0⟩)
  | _ => .Pass ⟨0, 0, 0, 0⟩
def defArgs (s : Stmt) : Arguments := match s with
  | .FunctionDef _ a _ _ _ _ _ _ _ _ => a
  | _ => { posonlyargs := [], args := [], vararg := none, kwonlyargs := [], kw_defaults := [], kwarg := none, defaults := [] }
def defBody (s : Stmt) : List Stmt := match s with
  | .FunctionDef _ _ b _ _ _ _ _ _ _ => b
  | _ => []
def defScope (s : Stmt) : Scope := match s with
  | .FunctionDef _ _ _ _ _ _ sc _ _ _ => sc
  | _ => { kind := .function, names := [], isGenerator := false, isCoroutine := false }

/-! ### no exception leaves a def -/
abbrev CX0 : CXT := fun _ _ _ _ _ _ => False
abbrev E0 : XK := fun _ _ _ => False
theorem pass0 {X : Cx} : Passes CX0 X E0 := fun _ _ _ _ _ _ _ h => h.elim

/-! ### a def (or method) of the text as it stands behind the top -/
structure Fun (K : PySem.W.Frag) (x qual : Str) (st : Stmt) (f : Addr) (fd : FuncData) : Prop where
  ex : ∃ (oc : Value) (od : Option Addr) (kV doc pm : Value) (an : Option Addr) (cdv ct : Value) (osl : Array (Option Value)),
    fd = PySem.W.fnOf x qual (defArgs st) (defBody st) (defScope st) .none kV doc pm an cdv ct ∧ K.lookup f = some ⟨oc, od, .func fd, osl⟩ ∧ PySem.W.codeIn K cdv qual = true
  kp : PySem.W.keepIn K (.ref f) = true
section
variable {P : Program} {w : World} {K : PySem.W.Frag} {mg : Str → Option Value} {base : Heap}
/-- THE RULE for a def: its body as a term of rules, and the reading of that term -/
theorem Fun.ok {x qual : Str} {st : Stmt} {f : Addr} {fd : FuncData} {N ps : List Str} {k : Nat} {sp : Sp} (F : Fun K x qual st f fd) (S : FnScope N ps (defScope st)) (len : ∀ vs H Q E, sp vs H Q E → vs.length = ps.length)
    (hbody : ∀ (cdv : Value) (A : Around) (outer : List Env) (s : Shared) (H : Hp) (vs : List V) (Q : VK) (E : XK), Room k (A.deeper (envOfC qual (defScope st) s.heap.objs.size f cdv)) → sp vs H Q E →
      ∃ t, PSs (cxOf CX0 P w K mg base N qual (defScope st) f cdv A outer s H E).nox (defBody st) t ∧ t { nx := fun _ H' => Q .non H', rt := Q } (start N vs) H) : FnOk P w K mg base CX0 (k + 1) f fd ps sp := by
  obtain ⟨oc, od, kV, doc, pm, an, cdv, ct, osl, rfl, lk, hcd⟩ := F.ex
  refine fn_of lk hcd S len fun A outer s H vs Q E hr hsp => ?_
  obtain ⟨t, h, q⟩ := hbody cdv A outer s H vs Q E hr hsp
  exact ⟨t, h.nox, q⟩
/-- how its arguments bind (no defaults): h is «fun _ _ _ _ _ _ us hl => match us, hl with | [_, _], _ => rfl», one _ a parameter -/
theorem Fun.binds {x qual : Str} {st : Stmt} {f : Addr} {fd : FuncData} {ps : List Str} (F : Fun K x qual st f fd)
    (h : ∀ (kV doc pm : Value) (an : Option Addr) (cdv ct : Value) (us : List Value), us.length = ps.length → bindArgs (PySem.W.fnOf x qual (defArgs st) (defBody st) (defScope st) .none kV doc pm an cdv ct) ⟨us, []⟩ = pure (ps.zip us)) : Binds K fd ps [] := by
  obtain ⟨oc, od, kV, doc, pm, an, cdv, ct, osl, rfl, lk, hcd⟩ := F.ex
  exact .all (h kV doc pm an cdv ct)
theorem fun_mk {x qual : Str} {st : Stmt} {f : Addr} {oc : Value} {od an : Option Addr} {osl : Array (Option Value)} {kV doc pm cdv ct : Value} (l : K.lookup f = some ⟨oc, od, .func (PySem.W.fnOf x qual (defArgs st) (defBody st) (defScope st) .none kV doc pm an cdv ct), osl⟩)
    (c : PySem.W.codeIn K cdv qual = true) (k : PySem.W.keepIn K (.ref f) = true) : Fun K x qual st f (PySem.W.fnOf x qual (defArgs st) (defBody st) (defScope st) .none kV doc pm an cdv ct) := ⟨⟨oc, od, kV, doc, pm, an, cdv, ct, osl, rfl, l, c⟩, k⟩
end
/-! ### expressions in short: the name that stands in the i-th slot -/
section
variable {X : Cx}
theorem pv (i : Nat) {x : Str} {pos : Pos} (hN : X.N[i]? = some x := by rfl) (hv : Vis X.env.scope x := by first | exact Or.inl rfl | exact Or.inr (Or.inl rfl) | exact Or.inr (Or.inr rfl)) (hd : (x == ("__debug__" : Str)) = false := by decide)
    (hcd : (x == ("__classdict__" : Str)) = false := by decide) : PE X (.Name x pos) (tVar i) := pe_var hN hv hd hcd
end

/-! ### tests -/
theorem iteF {A B : Prop} (h : B) : if false = true then A else B := by
  rw [if_neg Bool.false_ne_true]
  exact h
theorem iteT {A B : Prop} (h : A) : if true = true then A else B := by
  rw [if_pos rfl]
  exact h
/-! ### heaps -/
/-- all that was tracked is as it was -/
def Same (H H' : Hp) : Prop := ∀ b o, H b = some o → H' b = some o
theorem Same.refl (H : Hp) : Same H H := fun _ _ h => h
theorem Same.trans {H H1 H2 : Hp} (a : Same H H1) (b : Same H1 H2) : Same H H2 := fun c o h => b c o (a c o h)
theorem Same.free {H H' : Hp} (e : Same H H') {l : Addr} (h : H' l = Option.none) : H l = Option.none := by
  cases q : H l with
  | none => rfl
  | some o =>
    rw [e l o q] at h
    cases h
theorem Same.seq {K : PySem.W.Frag} {H H' : Hp} {a : Addr} {xs : List V} (e : Same H H') (h : SqL K H a xs) : SqL K H' a xs := by
  rcases h with (h | ⟨o, h⟩) | h
  · exact .inl (.inl (e _ _ h))
  · exact .inl (.inr ⟨o, e _ _ h⟩)
  · exact .inr h

/-! ### a dict's pairs: keys that differ -/
section
variable {κ : Type} [DecidableEq κ]
end
/-! ### lists -/
theorem at_of {xs : List V} {z : Int} {j : Nat} {v : V} (e : z = (j : Int)) (h : xs[j]? = some v) : atI xs z = some v := by
  rw [e]
  exact atI_nat h
/-- a new instance and its __init__ leave all that was tracked as it was -/
theorem Same.made {H H1 : Hp} {x dx C : Addr} (nx : H x = Option.none) (nd : H dx = Option.none) (k : ∀ b o, (upd (upd H dx (.own x)) x (.ins C dx [])) b = some o → b ≠ x → H1 b = some o) : Same H H1 := fun b o e =>
  k b o (by rw [upd_ne (ne_of_none e nx), upd_ne (ne_of_none e nd)]; exact e) (ne_of_none e nx)
end L2

section
set_option Elab.async false
set_option linter.all false
set_option maxRecDepth 100000
set_option maxHeartbeats 2000000
namespace L2
open PySem PySem.Spec PyProof.Rows
open PySem.W (WData Codec OpenSpec Well WellAll ReadsW ReadsAllW)
/-! ### an answer as data -/
mutual
/-- x stands for the datum d, lists and tuples all the way -/
inductive Dw (K : PySem.W.Frag) (H : Hp) : V → WData → Prop
  | non : Dw K H .non .none
  | bl (b : Bool) : Dw K H (.bl b) (.bool b)
  | int (i : Int) : Dw K H (.int i) (.int i)
  | str (x : Str) : Dw K H (.str x) (.str x)
  | byt (b : Array UInt8) : Dw K H (.byt b) (.bytes b.toList)
  | lst {a : Addr} {xs : List V} {ds : List WData} : SqL K H a xs → DwAll K H xs ds → Dw K H (.ref a) (.list ds)
  | tup {a : Addr} {xs : List V} {ds : List WData} : SqT K H a xs → DwAll K H xs ds → Dw K H (.ref a) (.tuple ds)
inductive DwAll (K : PySem.W.Frag) (H : Hp) : List V → List WData → Prop
  | nil : DwAll K H [] []
  | cons {v : V} {vs : List V} {d : WData} {ds : List WData} : Dw K H v d → DwAll K H vs ds → DwAll K H (v :: vs) (d :: ds)
end
theorem dw_ints {K : PySem.W.Frag} {H : Hp} : ∀ ns : List Int, DwAll K H (ns.map V.int) (ns.map WData.int)
  | [] => .nil
  | n :: r => .cons (.int n) (dw_ints r)
theorem ints_dw {K : PySem.W.Frag} {H : Hp} : ∀ (ns : List Int) (xs : List V), DwAll K H xs (ns.map WData.int) → xs = ns.map V.int
  | [], xs, h => by
    cases h
    rfl
  | n :: r, xs, h => by
    cases h with
    | cons h1 h2 =>
      cases h1
      rw [ints_dw r _ h2] <;> rfl
section
variable {P : Program} {w : World} {K : PySem.W.Frag} {H : Hp} {h : Heap} {R : PySem.W.WRecords} {cl : Str → Option Addr}
theorem sqL_at {a : Addr} {xs : List V} (hok : HOk P w H h) (KX : K.In h) (q : SqL K H a xs) : ∃ (its : List Value) (o : Obj) (n : Nat), Vals xs its ∧ h.get? a = some o ∧ o.cls = .type "list" ∧ o.data = .seq its.toArray n := by
  rcases q with q | ⟨o, its, n, e, hc, _, hd, _, hv⟩
  · obtain ⟨_, its, n, hv, e⟩ := (show ObjOk P w H h a (.lst xs) from q.ok hok)
    exact ⟨its, _, n, hv, e, rfl, rfl⟩
  · exact ⟨its.toList, o, n, hv, KX _ _ e, hc, by simp [hd]⟩
theorem sqT_at {a : Addr} {xs : List V} (hok : HOk P w H h) (KX : K.In h) (q : SqT K H a xs) : ∃ (its : List Value) (o : Obj) (n : Nat), Vals xs its ∧ h.get? a = some o ∧ o.cls = .type "tuple" ∧ o.data = .seq its.toArray n := by
  rcases q with q | ⟨o, its, n, e, hc, hd, _, hv⟩
  · obtain ⟨_, its, hv, o, e, hc, n, hd⟩ := (show ObjOk P w H h a (.tup xs) from q.ok hok)
    exact ⟨its, o, n, hv, e, hc, hd⟩
  · exact ⟨its.toList, o, n, hv, KX _ _ e, hc, by simp [hd]⟩
mutual
theorem Dw.reads (hok : HOk P w H h) (KX : K.In h) : ∀ (d : WData) (v : V) (u : Value), Dw K H v d → RelV v u → ∃ as, ReadsW R cl h u d as
  | .none, _, _, x, r => by
    cases x
    cases r
    exact ⟨_, ReadsW.none⟩
  | .bool b, _, _, x, r => by
    cases x
    cases r
    exact ⟨_, ReadsW.bool b⟩
  | .int i, _, _, x, r => by
    cases x
    obtain ⟨t, rfl⟩ := r
    exact ⟨_, ReadsW.int i t⟩
  | .str s, _, _, x, r => by
    cases x
    obtain ⟨t, rfl⟩ := r
    exact ⟨_, ReadsW.str s t⟩
  | .bytes b, _, _, x, r => by
    cases x
    obtain ⟨t, rfl⟩ := r
    exact ⟨_, ReadsW.bytes _ t⟩
  | .list ds, _, _, x, r => by
    cases x with
    | lst hs ha =>
      cases r
      obtain ⟨its, o, n, rv, ho, hc, hd⟩ := sqL_at hok KX hs
      obtain ⟨as, hr⟩ := Dw.readsAll hok KX ds _ its ha rv
      exact ⟨_, ReadsW.list ho hc hd hr⟩
  | .tuple ds, _, _, x, r => by
    cases x with
    | tup hs ha =>
      cases r
      obtain ⟨its, o, n, rv, ho, hc, hd⟩ := sqT_at hok KX hs
      obtain ⟨as, hr⟩ := Dw.readsAll hok KX ds _ its ha rv
      exact ⟨_, ReadsW.tuple ho hc hd hr⟩
  | .float _, _, _, x, _ => by cases x
  | .dict _, _, _, x, _ => by cases x
  | .bytearray _, _, _, x, _ => by cases x
  | .set _, _, _, x, _ => by cases x
  | .frozenset _, _, _, x, _ => by cases x
  | .obj _ _, _, _, x, _ => by cases x
theorem Dw.readsAll (hok : HOk P w H h) (KX : K.In h) : ∀ (ds : List WData) (vs : List V) (us : List Value), DwAll K H vs ds → Vals vs us → ∃ as, ReadsAllW R cl h us ds as
  | [], _, _, x, r => by
    cases x
    cases r
    exact ⟨_, ReadsAllW.nil⟩
  | d :: ds, _, _, x, r => by
    cases x with
    | cons h1 h2 =>
      cases r with
      | cons r1 r2 =>
        obtain ⟨as, q1⟩ := Dw.reads hok KX d _ _ h1 r1
        obtain ⟨bs, q2⟩ := Dw.readsAll hok KX ds _ _ h2 r2
        exact ⟨_, ReadsAllW.cons q1 q2⟩
end
end
/-! ### the arguments -/
mutual
/-- data that a codec tells -/
def plW : WData → Bool
  | .none => true
  | .bool _ => true
  | .int _ => true
  | .str _ => true
  | .bytes _ => true
  | .list xs => plWs xs
  | .tuple xs => plWs xs
  | _ => false
def plWs : List WData → Bool
  | [] => true
  | x :: r => plW x && plWs r
end
theorem plWs_map {α : Type} {f : α → WData} (h : ∀ a, plW (f a) = true) : ∀ l : List α, plWs (l.map f) = true
  | [] => rfl
  | x :: r => by
    show (plW (f x) && plWs (r.map f)) = true
    rw [h x, plWs_map h r] <;> rfl
theorem pl_enc : ∀ (c : Codec) (a : c.denote), plW (c.enc a) = true
  | .unit, _ => rfl
  | .bool, _ => rfl
  | .int _ _, _ => rfl
  | .nat _ _, _ => rfl
  | .u8, _ => rfl
  | .bytes _ _, _ => rfl
  | .text _ _ _ _, _ => rfl
  | .list _ _ c, a => plWs_map (fun x => pl_enc c x) a
  | .pair c d, a => by
    show (plW (c.enc a.1) && (plW (d.enc a.2) && true)) = true
    rw [pl_enc c a.1, pl_enc d a.2] <;> rfl
  | .triple c d e, a => by
    show (plW (c.enc a.1) && (plW (d.enc a.2.1) && (plW (e.enc a.2.2) && true))) = true
    rw [pl_enc c a.1, pl_enc d a.2.1, pl_enc e a.2.2] <;> rfl
  | .option c, none => rfl
  | .option c, some x => pl_enc c x
theorem pl_encAll : ∀ (cs : List Codec) (a : Codec.denoteAll cs), plWs (Codec.encAll cs a) = true
  | [], _ => rfl
  | c :: cs, a => by
    show (plW (c.enc a.1) && plWs (Codec.encAll cs a.2)) = true
    rw [pl_enc c a.1, pl_encAll cs a.2] <;> rfl
theorem weight_mem : ∀ {xs : List WData} {d : WData}, d ∈ xs → d.weight ≤ WData.weightAll xs
  | [], d, h => absurd h (by simp)
  | x :: r, d, h => by
    show d.weight ≤ x.weight + 1 + WData.weightAll r
    rcases List.mem_cons.mp h with e | m
    · rw [e]
      omega
    · have z := weight_mem m
      omega
def toV : Value → V
  | .none => .non
  | .bool b => .bl b
  | .int i _ => .int i
  | .str x _ => .str x
  | .bytes b _ => .byt b
  | .ref a => .ref a
  | _ => .non
/-- a value of the arguments, its objects among A -/
def OkU (A : List Addr) : Value → Prop
  | .none => True
  | .bool _ => True
  | .int _ _ => True
  | .str _ _ => True
  | .bytes _ _ => True
  | .ref a => a ∈ A
  | _ => False
theorem OkU.mono {A B : List Addr} (h : ∀ a ∈ A, a ∈ B) : ∀ {u : Value}, OkU A u → OkU B u := fun {u} x => by
  cases u with
  | ref a => exact h a x
  | none => trivial
  | bool b => trivial
  | int i t => trivial
  | str s t => trivial
  | bytes b t => trivial
  | _ => exact False.elim x
theorem relV_toV {A : List Addr} {u : Value} (x : OkU A u) : RelV (toV u) u := by
  cases u with
  | ref a => rfl
  | none => rfl
  | bool b => rfl
  | int i t => exact ⟨t, rfl⟩
  | str s t => exact ⟨t, rfl⟩
  | bytes b t => exact ⟨t, rfl⟩
  | _ => exact False.elim x
theorem vals_toV {A : List Addr} : ∀ {vs : List Value}, (∀ u ∈ vs, OkU A u) → Vals (vs.map toV) vs
  | [], _ => .nil
  | u :: r, h => .cons (relV_toV (h u (List.mem_cons_self ..))) (vals_toV fun x hx => h x (List.mem_cons_of_mem _ hx))
/-- an object of the arguments -/
def ArgOb (h : Heap) (A : List Addr) (a : Addr) : Prop := ∃ vs : List Value, vs.length ≤ sizeLine ∧ (∀ u ∈ vs, OkU A u) ∧
  (h.get? a = some { cls := .type "list", data := .seq vs.toArray } ∨ h.get? a = some { cls := .type "tuple", data := .seq vs.toArray })
theorem ArgOb.mono {h : Heap} {A B : List Addr} {a : Addr} (k : ∀ a ∈ A, a ∈ B) (x : ArgOb h A a) : ArgOb h B a := by
  obtain ⟨vs, h1, h2, h3⟩ := x
  exact ⟨vs, h1, fun u hu => (h2 u hu).mono k, h3⟩
theorem wellAll_len {P : Params} {h : Heap} : ∀ {vs : List Value} {ds : List WData}, WellAll P h vs ds → vs.length = ds.length
  | _, _, .nil => rfl
  | _, _, .cons _ b => by
    show _ + 1 = _ + 1
    rw [wellAll_len b]
theorem well_list {P : Params} {h : Heap} {v : Value} {ds : List WData} (x : Well P h v (.list ds)) : ∃ (a : Addr) (vs : List Value), v = .ref a ∧ h.get? a = some { cls := .type "list", data := .seq vs.toArray } ∧ WellAll P h vs ds := by
  cases x with
  | list ho hall => exact ⟨_, _, rfl, ho, hall⟩
theorem well_tuple {P : Params} {h : Heap} {v : Value} {ds : List WData} (x : Well P h v (.tuple ds)) : ∃ (a : Addr) (vs : List Value), v = .ref a ∧ h.get? a = some { cls := .type "tuple", data := .seq vs.toArray } ∧ WellAll P h vs ds := by
  cases x with
  | tuple ho hall => exact ⟨_, _, rfl, ho, hall⟩
theorem well_cons {P : Params} {h : Heap} {us : List Value} {d : WData} {ds : List WData} (x : WellAll P h us (d :: ds)) : ∃ (v : Value) (vs : List Value), us = v :: vs ∧ Well P h v d ∧ WellAll P h vs ds := by
  cases x with
  | cons a b => exact ⟨_, _, rfl, a, b⟩
theorem line_of {n : Nat} (h : n ≤ 1048576) : n ≤ sizeLine := Nat.le_trans h (by decide)
section
variable {P : Params} {h : Heap}
mutual
theorem area_one : ∀ (d : WData) (v : Value), Well P h v d → plW d = true → d.weight ≤ 1048576 → ∃ A : List Addr, OkU A v ∧ ∀ a ∈ A, ArgOb h A a
  | .none, _, x, _, _ => by
    cases x
    exact ⟨[], trivial, fun a m => absurd m (by simp)⟩
  | .bool b, _, x, _, _ => by
    cases x
    exact ⟨[], trivial, fun a m => absurd m (by simp)⟩
  | .int i, _, x, _, _ => by
    cases x
    exact ⟨[], trivial, fun a m => absurd m (by simp)⟩
  | .str s, _, x, _, _ => by
    cases x
    exact ⟨[], trivial, fun a m => absurd m (by simp)⟩
  | .bytes b, _, x, _, _ => by
    cases x
    exact ⟨[], trivial, fun a m => absurd m (by simp)⟩
  | .list ds, _, x, p, z => by
    obtain ⟨a, vs, rfl, ho, hall⟩ := well_list x
    have z2 : WData.weightAll ds ≤ 1048576 := z
    obtain ⟨A, h1, h2⟩ := area_all ds _ hall p fun d hd => Nat.le_trans (weight_mem hd) z2
    have k : ∀ b ∈ A, b ∈ a :: A := fun b hb => List.mem_cons_of_mem _ hb
    refine ⟨a :: A, List.mem_cons_self .., fun b hb => ?_⟩
    rcases List.mem_cons.mp hb with e | m
    · rw [e]
      exact ⟨vs, line_of (by rw [wellAll_len hall]; exact Nat.le_trans (PySem.W.length_le_weightAllW ds) z2), fun u hu => (h1 u hu).mono k, .inl ho⟩
    · exact (h2 b m).mono k
  | .tuple ds, _, x, p, z => by
    obtain ⟨a, vs, rfl, ho, hall⟩ := well_tuple x
    have z2 : WData.weightAll ds ≤ 1048576 := z
    obtain ⟨A, h1, h2⟩ := area_all ds _ hall p fun d hd => Nat.le_trans (weight_mem hd) z2
    have k : ∀ b ∈ A, b ∈ a :: A := fun b hb => List.mem_cons_of_mem _ hb
    refine ⟨a :: A, List.mem_cons_self .., fun b hb => ?_⟩
    rcases List.mem_cons.mp hb with e | m
    · rw [e]
      exact ⟨vs, line_of (by rw [wellAll_len hall]; exact Nat.le_trans (PySem.W.length_le_weightAllW ds) z2), fun u hu => (h1 u hu).mono k, .inr ho⟩
    · exact (h2 b m).mono k
  | .float _, _, _, p, _ => Bool.noConfusion (show false = true from p)
  | .dict _, _, _, p, _ => Bool.noConfusion (show false = true from p)
  | .bytearray _, _, _, p, _ => Bool.noConfusion (show false = true from p)
  | .set _, _, _, p, _ => Bool.noConfusion (show false = true from p)
  | .frozenset _, _, _, p, _ => Bool.noConfusion (show false = true from p)
  | .obj _ _, _, _, p, _ => Bool.noConfusion (show false = true from p)
theorem area_all : ∀ (ds : List WData) (vs : List Value), WellAll P h vs ds → plWs ds = true → (∀ d ∈ ds, d.weight ≤ 1048576) → ∃ A : List Addr, (∀ u ∈ vs, OkU A u) ∧ ∀ a ∈ A, ArgOb h A a
  | [], _, x, _, _ => by
    cases x
    exact ⟨[], fun u m => absurd m (by simp), fun a m => absurd m (by simp)⟩
  | d :: ds, _, x, p, z => by
    obtain ⟨v, vs, rfl, x1, x2⟩ := well_cons x
    have q : plW d = true ∧ plWs ds = true := Bool.and_eq_true_iff.mp p
    obtain ⟨A, a1, a2⟩ := area_one d v x1 q.1 (z d (List.mem_cons_self ..))
    obtain ⟨B, b1, b2⟩ := area_all ds vs x2 q.2 fun e he => z e (List.mem_cons_of_mem _ he)
    have kA : ∀ b ∈ A, b ∈ A ++ B := fun b hb => List.mem_append.mpr (.inl hb)
    have kB : ∀ b ∈ B, b ∈ A ++ B := fun b hb => List.mem_append.mpr (.inr hb)
    refine ⟨A ++ B, fun u hu => ?_, fun b hb => ?_⟩
    · rcases List.mem_cons.mp hu with e | m
      · rw [e]
        exact a1.mono kA
      · exact (b1 u m).mono kB
    · rcases List.mem_append.mp hb with m | m
      · exact (a2 b m).mono kA
      · exact (b2 b m).mono kB
end
end
/-- what is tracked of an argument's object -/
def hoOf (o : Obj) : Option HO := match o.data with
  | .seq vs _ => if (o.cls == Value.type "list") = true then some (.frz o (.lst (vs.toList.map toV))) else some (.frz o (.tup (vs.toList.map toV)))
  | _ => none
def argH (K : PySem.W.Frag) (h : Heap) (A : List Addr) : Hp := fun b => if b ∈ A then (if (K.lookup b).isNone = true then (h.get? b).bind hoOf else none) else none
/-- nothing is tracked but what is known to the object -/
def OnlyF (H : Hp) : Prop := ∀ b, H b = none ∨ ∃ o u, H b = some (.frz o u)
theorem hoOf_lst (vs : List Value) : hoOf { cls := .type "list", data := .seq vs.toArray } = some (.frz { cls := .type "list", data := .seq vs.toArray } (.lst (vs.map toV))) := by
  show (if (Value.type "list" == Value.type "list") = true then some (HO.frz { cls := .type "list", data := .seq vs.toArray } (.lst (vs.toArray.toList.map toV))) else some (HO.frz { cls := .type "list", data := .seq vs.toArray } (.tup (vs.toArray.toList.map toV)))) = _
  rw [if_pos (beq_self_eq_true _)]
theorem hoOf_tup (vs : List Value) : hoOf { cls := .type "tuple", data := .seq vs.toArray } = some (.frz { cls := .type "tuple", data := .seq vs.toArray } (.tup (vs.map toV))) := by
  show (if (Value.type "tuple" == Value.type "list") = true then some (HO.frz { cls := .type "tuple", data := .seq vs.toArray } (.lst (vs.toArray.toList.map toV))) else some (HO.frz { cls := .type "tuple", data := .seq vs.toArray } (.tup (vs.toArray.toList.map toV)))) = _
  rw [if_neg (by decide)]
section
variable {P : Program} {w : World} {K : PySem.W.Frag} {h : Heap} {A : List Addr}
theorem argH_at {b : Addr} {o : Obj} (hb : b ∈ A) (hk : K.lookup b = none) (e : h.get? b = some o) : argH K h A b = hoOf o := by
  unfold argH
  rw [if_pos hb, hk, if_pos (show (none : Option Obj).isNone = true from rfl), e] <;> rfl
theorem of_argH {b : Addr} {u : HO} (q : argH K h A b = some u) : b ∈ A ∧ K.lookup b = none := by
  unfold argH at q
  by_cases hb : b ∈ A
  · rw [if_pos hb] at q
    cases hk : K.lookup b with
    | none => exact ⟨hb, rfl⟩
    | some o =>
      rw [hk, if_neg (by simp)] at q
      cases q
  · rw [if_neg hb] at q
    cases q
/-- what stands tracked -/
theorem argH_is (ar : ∀ a ∈ A, ArgOb h A a) {b : Addr} {u : HO} (q : argH K h A b = some u) : K.lookup b = none ∧ ∃ vs : List Value, vs.length ≤ sizeLine ∧ (∀ u ∈ vs, OkU A u) ∧
    ((h.get? b = some { cls := .type "list", data := .seq vs.toArray } ∧ u = .frz { cls := .type "list", data := .seq vs.toArray } (.lst (vs.map toV))) ∨
     (h.get? b = some { cls := .type "tuple", data := .seq vs.toArray } ∧ u = .frz { cls := .type "tuple", data := .seq vs.toArray } (.tup (vs.map toV)))) := by
  obtain ⟨hb, hk⟩ := of_argH q
  obtain ⟨vs, h1, h2, h3⟩ := ar b hb
  refine ⟨hk, vs, h1, h2, ?_⟩
  rcases h3 with e | e
  · rw [argH_at hb hk e, hoOf_lst] at q
    exact .inl ⟨e, (Option.some.inj q).symm⟩
  · rw [argH_at hb hk e, hoOf_tup] at q
    exact .inr ⟨e, (Option.some.inj q).symm⟩
theorem argH_only (ar : ∀ a ∈ A, ArgOb h A a) : OnlyF (argH K h A) := fun b => by
  cases q : argH K h A b with
  | none => exact .inl rfl
  | some u =>
    obtain ⟨_, vs, _, _, ⟨_, e⟩ | ⟨_, e⟩⟩ := argH_is ar q
    · exact .inr ⟨_, _, by rw [e]⟩
    · exact .inr ⟨_, _, by rw [e]⟩
theorem argH_ok (ar : ∀ a ∈ A, ArgOb h A a) : HOk P w (argH K h A) h := fun b u q => by
  obtain ⟨_, vs, h1, h2, ⟨e, rfl⟩ | ⟨e, rfl⟩⟩ := argH_is ar q
  · exact ⟨e, by rw [List.length_map]; exact h1, vs, _, vals_toV h2, e⟩
  · exact ⟨e, by rw [List.length_map]; exact h1, vs, vals_toV h2, _, e, rfl, _, rfl⟩
theorem seq_inj {c c' : Value} {vs us : List Value} (e : (some { cls := c, data := .seq vs.toArray } : Option Obj) = some { cls := c', data := .seq us.toArray }) : c = c' ∧ vs = us := by
  have e1 := Option.some.inj e
  have e2 : c = c' := congrArg Obj.cls e1
  have e3 : Data.seq vs.toArray = Data.seq us.toArray := congrArg Obj.data e1
  injection e3 with e4
  refine ⟨e2, ?_⟩
  have e5 := congrArg Array.toList e4
  simpa using e5
/-- a list argument -/
theorem argL (KX : K.In h) (ar : ∀ a ∈ A, ArgOb h A a) {a : Addr} {vs : List Value} (ha : a ∈ A) (e : h.get? a = some { cls := .type "list", data := .seq vs.toArray }) : (∀ u ∈ vs, OkU A u) ∧ SqL K (argH K h A) a (vs.map toV) := by
  obtain ⟨us, h1, h2, h3⟩ := ar a ha
  have hu : us = vs := by
    rcases h3 with q | q
    · rw [e] at q
      exact (seq_inj q).2.symm
    · rw [e] at q
      exact absurd (Value.type.inj (seq_inj q).1) (by decide)
  subst hu
  refine ⟨h2, ?_⟩
  cases hk : K.lookup a with
  | none => exact .inl (.inr ⟨_, by rw [argH_at ha hk e, hoOf_lst]⟩)
  | some o =>
    have e2 := KX a o hk
    rw [e] at e2
    obtain rfl := Option.some.inj e2
    exact .inr ⟨_, us.toArray, _, hk, rfl, rfl, rfl, by rw [List.size_toArray]; exact h1, by simpa using vals_toV h2⟩
theorem argT (KX : K.In h) (ar : ∀ a ∈ A, ArgOb h A a) {a : Addr} {vs : List Value} (ha : a ∈ A) (e : h.get? a = some { cls := .type "tuple", data := .seq vs.toArray }) : (∀ u ∈ vs, OkU A u) ∧ SqT K (argH K h A) a (vs.map toV) := by
  obtain ⟨us, h1, h2, h3⟩ := ar a ha
  have hu : us = vs := by
    rcases h3 with q | q
    · rw [e] at q
      exact absurd (Value.type.inj (seq_inj q).1) (by decide)
    · rw [e] at q
      exact (seq_inj q).2.symm
  subst hu
  refine ⟨h2, ?_⟩
  cases hk : K.lookup a with
  | none => exact .inl (.inr ⟨_, by rw [argH_at ha hk e, hoOf_tup]⟩)
  | some o =>
    have e2 := KX a o hk
    rw [e] at e2
    obtain rfl := Option.some.inj e2
    exact .inr ⟨_, us.toArray, _, hk, rfl, rfl, by rw [List.size_toArray]; exact h1, by simpa using vals_toV h2⟩
mutual
theorem dw_one {Pm : Params} (KX : K.In h) (ar : ∀ a ∈ A, ArgOb h A a) : ∀ (d : WData) (v : Value), Well Pm h v d → plW d = true → OkU A v → Dw K (argH K h A) (toV v) d
  | .none, _, x, _, _ => by
    cases x
    exact .non
  | .bool b, _, x, _, _ => by
    cases x
    exact .bl b
  | .int i, _, x, _, _ => by
    cases x
    exact .int i
  | .str s, _, x, _, _ => by
    cases x
    exact .str s
  | .bytes b, _, x, _, _ => by
    cases x
    have z := Dw.byt (K := K) (H := argH K h A) b.toArray
    exact z
  | .list ds, _, x, p, hu => by
    obtain ⟨a, vs, rfl, ho, hall⟩ := well_list x
    obtain ⟨h2, hs⟩ := argL KX ar hu ho
    exact .lst hs (dw_all KX ar ds _ hall p h2)
  | .tuple ds, _, x, p, hu => by
    obtain ⟨a, vs, rfl, ho, hall⟩ := well_tuple x
    obtain ⟨h2, hs⟩ := argT KX ar hu ho
    exact .tup hs (dw_all KX ar ds _ hall p h2)
  | .float _, _, _, p, _ => Bool.noConfusion (show false = true from p)
  | .dict _, _, _, p, _ => Bool.noConfusion (show false = true from p)
  | .bytearray _, _, _, p, _ => Bool.noConfusion (show false = true from p)
  | .set _, _, _, p, _ => Bool.noConfusion (show false = true from p)
  | .frozenset _, _, _, p, _ => Bool.noConfusion (show false = true from p)
  | .obj _ _, _, _, p, _ => Bool.noConfusion (show false = true from p)
theorem dw_all {Pm : Params} (KX : K.In h) (ar : ∀ a ∈ A, ArgOb h A a) : ∀ (ds : List WData) (vs : List Value), WellAll Pm h vs ds → plWs ds = true → (∀ u ∈ vs, OkU A u) → DwAll K (argH K h A) (vs.map toV) ds
  | [], _, x, _, _ => by
    cases x
    exact .nil
  | d :: ds, _, x, p, hu => by
    obtain ⟨v, vs, rfl, x1, x2⟩ := well_cons x
    have q : plW d = true ∧ plWs ds = true := Bool.and_eq_true_iff.mp p
    exact .cons (dw_one KX ar d v x1 q.1 (hu _ (List.mem_cons_self ..))) (dw_all KX ar ds vs x2 q.2 fun u m => hu u (List.mem_cons_of_mem _ m))
end
end
/-! ### the call -/
theorem spec_call {P : Program} {w : World} {K : PySem.W.Frag} {mg mb : Str → Option Value} {CX : CXT} {k : Nat} {fa : Addr} {fd : FuncData} {ps : List Str} {sp : Sp} {s₁ : Shared} {vals : List Value} {ds : List WData} {R : PySem.W.WRecords} {cl : Str → Option Addr} {d0 : WData}
    (KX : K.In s₁.heap) (hns : s₁.heap.Ns mainGlobals mg) (hb : s₁.heap.Ns builtinsNs mb) (hbb : ∀ x : Str, x ≠ "__name__" → mb x = bootBuiltins x) (hlim : s₁.heap.NoLimit) (hg : s₁.gens = #[])
    (hwl : WellAll w.params s₁.heap vals ds) (hpl : plWs ds = true) (hwt : ∀ d ∈ ds, d.weight ≤ 1048576) (hr : Room k callerA)
    (F : ∀ base : Heap, K.In base → base.Ns mainGlobals mg → FnOk P w K mg base CX k fa fd ps sp) (hbind : ∀ (s : Shared) (us : List Value), us.length = ps.length → BindsTo s fd ⟨us, []⟩ (ps.zip us)) (hlen : ds.length = ps.length)
    (hsp : ∀ (H : Hp) (xs : List V), OnlyF H → DwAll K H xs ds → sp xs H (fun v H' => Dw K H' v d0) fun _ _ _ => False)
    (hCX : ∀ H e s', CX [] H s₁ (fun _ _ _ => False) e s' → False) :
    codeAny (model P w) callerA (.call (.ref fa) ⟨vals, []⟩) (fun r s' => ∃ u as, r = .ok (.ret u) ∧ ReadsW R cl s'.heap u d0 as ∧ OldK s₁.heap s'.heap ∧ s'.os = s₁.os ∧ AllBare s'.gens) s₁ := by
  obtain ⟨A, ho, ar⟩ := area_all ds vals hwl hpl hwt
  have hO : OnlyF (argH K s₁.heap A) := argH_only ar
  have hok : HOk P w (argH K s₁.heap A) s₁.heap := argH_ok ar
  have hS := dw_all KX ar ds vals hwl hpl ho
  have hV := vals_toV ho
  have hK : ∀ b u, argH K s₁.heap A b = some u → K.lookup b = none := fun b u q => (argH_is ar q).1
  have noA : ∀ {b : Addr} {o : Obj} {es : Array DictEntry} {ep : Nat}, s₁.heap.get? b = some o → o.data = .dict es ep → argH K s₁.heap A b = none := fun {b o es ep} e d => by
    cases q : argH K s₁.heap A b with
    | none => rfl
    | some u =>
      obtain ⟨_, vs, _, _, ⟨e2, _⟩ | ⟨e2, _⟩⟩ := argH_is ar q
      · rw [e2] at e
        cases e
        have d' : Data.seq vs.toArray _ = Data.dict es ep := d
        cases d'
      · rw [e2] at e
        cases e
        have d' : Data.seq vs.toArray _ = Data.dict es ep := d
        cases d'
  generalize argH K s₁.heap A = H at hO hok hS hK noA
  have base_of : ∀ {b : Addr} {o : Obj}, s₁.heap.get? b = some o → H b = none → (hidT s₁.heap H).get? b = some o := fun e n => hidT_get e n
  have nsK : ∀ {b : Addr} {m : Str → Option Value}, s₁.heap.Ns b m → (hidT s₁.heap H).Ns b m := fun {b m} ⟨o, es, ep, e, d, r⟩ => ⟨o, es, ep, base_of e (noA e d), d, r⟩
  have nK : ∀ b o, K.lookup b = some o → H b = none := fun b o e => by
    cases q : H b with
    | none => rfl
    | some u =>
      rw [hK b u q] at e
      cases e
  have hKb : K.In (hidT s₁.heap H) := fun b o e => base_of (KX b o e) (nK b o e)
  have hM : Mod K mg (hidT s₁.heap H) := ⟨hKb, nsK hns, ⟨mb, nsK hb, hbb⟩, let ⟨mc, h1, h2⟩ := hlim; ⟨mc, nsK h1, h2⟩⟩
  have e0 : Env0 P w K mg (hidT s₁.heap H) callerA [] s₁ H := ⟨rfl, hM, fun b o e => of_hidT e, Nat.le_of_eq (hidT_size _ _), trivial, fun b hb => absurd (show b ∈ ([] : List Addr) from hb) (by simp), hok, .of_eq hg⟩
  have hl : vals.length = ps.length := by rw [wellAll_len hwl]; exact hlen
  refine codeAny_mono ((F _ hKb (nsK hns)).run callerA [] s₁ H ⟨vals, []⟩ vals (vals.map toV) _ _ hr e0 (hbind s₁ vals hl) hV (hsp H _ hO hS)) fun r s' x => ?_
  cases r with
  | error e => exact (hCX H e s' x).elim
  | ok fl =>
    cases fl with
    | next => exact False.elim x
    | brk => exact False.elim x
    | cont => exact False.elim x
    | ret u =>
      obtain ⟨v, H', os, bare, un, hok', r', q⟩ := x
      have kept : ∀ b o, s₁.heap.get? b = some o → s'.heap.get? b = some o := fun b o e => by
        cases q2 : H b with
        | none => exact un.keep b o e q2 (by intro z; exact absurd (show b ∈ ([] : List Addr) from z) (by simp)) (by simp)
        | some u2 =>
          rcases hO b with z | ⟨ob, u3, z⟩
          · rw [q2] at z
            cases z
          · have z2 := un.frzs b ob _ z
            obtain ⟨e1, _⟩ := hok b _ z
            obtain ⟨e2, _⟩ := hok' b _ z2
            rw [e] at e1
            cases e1
            exact e2
      have KX' : K.In s'.heap := fun b o e => kept b o (KX b o e)
      obtain ⟨as, hrd⟩ := Dw.reads (R := R) (cl := cl) hok' KX' d0 v u q r'
      exact ⟨u, as, rfl, hrd, OldK.of_keep kept, os, bare⟩
/-! ### the row -/
theorem layable_weight {ds : List WData} (h : WData.layableAll ds = true) : ∀ d ∈ ds, d.weight ≤ 1048576 := fun d hd =>
  (PySem.W.layableW_iff.mp (List.all_eq_true.mp h d hd)).2.2
theorem encAll_len : ∀ (cs : List Codec) (a : Codec.denoteAll cs), (Codec.encAll cs a).length = cs.length
  | [], _ => rfl
  | c :: cs, a => by
    show (Codec.encAll cs a.2).length + 1 = cs.length + 1
    rw [encAll_len cs a.2]
/-- the goal that k_headS leaves (case hc), from the promise of the row's def: whatever the arguments that the codecs let and the row asks for, the def gives what stands for enc (f ..) -/
theorem walk_spec {r : OpenSpec} {k : Nat} {q : Program} {loose : List Str} {XP : (Str → Option Value) → Heap → Prop} {YP : World → Heap → Prop} {d : DefRec} {K : Params → PySem.W.Frag} {CX : World → CXT} {ps : List Str} {sp : World → Sp}
    (hwell : r.wellSaid = true) (hdf : d.params.defaults = []) (hlen : r.args.length = ps.length) (hr : Room k callerA)
    (hY : ∀ (w : World) (h : Heap), YP w h → (K w.params).In h)
    (F : ∀ (w : World) (mg : Str → Option Value) (fa : Addr) (h : Heap), YP w h → (K w.params).In h → h.Ns mainGlobals mg → mg d.name = some (.ref fa) →
      ∃ fd : FuncData, (∀ (s : Shared) (us : List Value), us.length = ps.length → BindsTo s fd ⟨us, []⟩ (ps.zip us)) ∧
        ∀ base : Heap, (K w.params).In base → base.Ns mainGlobals mg → FnOk r.prog w (K w.params) mg base (CX w) k fa fd ps (sp w))
    (hsp : ∀ (w : World) (H : Hp) (xs : List V) (a : Codec.denoteAll r.args), OnlyF H → Codec.withinAll r.args a = true → Codec.app r.args r.asked a = true → DwAll (K w.params) H xs (Codec.encAll r.args a) →
      sp w xs H (fun v H' => Dw (K w.params) H' v (r.ret.enc (Codec.app r.args r.f a))) fun _ _ _ => False)
    (hCX : ∀ (w : World) (H : Hp) (s : Shared) (e : Value) (s' : Shared), CX w [] H s (fun _ _ _ => False) e s' → False) :
    PySem.W.WalkOS q loose XP YP r d [] (fun f vs => PySem.call f vs) := by
  intro w s_0 s₁ mg mb G Y fa o pm cd doc dV kV ho hd hcd hD hmg hg args vals as hpre hlay hrd hwl hlo
  obtain ⟨a, e1, e2⟩ := PySem.W.os_pre_some hpre
  obtain ⟨e3, hwi⟩ := Codec.encAll_of_decAll r.args args a e1
  subst e3
  have KX := hY w _ Y
  obtain ⟨fd, hb, hF⟩ := F w mg fa _ Y KX G.T.g hmg
  refine PySem.W.enter_call (codeAny_mono (spec_call (R := []) (cl := classAt s_0.heap) (d0 := r.ret.enc (Codec.app r.args r.f a)) KX G.T.g G.T.b G.T.builtins G.T.nolimit hg hwl (pl_encAll _ _) (layable_weight hlay) hr hF hb (by rw [encAll_len]; exact hlen)
    (fun H xs hO hS => hsp w H xs a hO hwi e2 hS) fun H e s' => hCX w H s₁ e s') fun r' s' hq => ?_)
  obtain ⟨u, as', rfl, h1, h2, h3, h4⟩ := hq
  exact ⟨.inl ⟨u, _, as', rfl, fun _ => rfl, h1, (OpenSpec.post_iff hwell hwi _ _).mpr rfl, fun z => Bool.noConfusion (show false = true from z)⟩, h2, h3, h4⟩
/-- the same where the promise hangs on the written part alone -/
theorem walk_specK {r : OpenSpec} {k : Nat} {q : Program} {loose : List Str} {XP : (Str → Option Value) → Heap → Prop} {YP : World → Heap → Prop} {d : DefRec} {K : Params → PySem.W.Frag} {CX : CXT} {ps : List Str} {sp : PySem.W.Frag → Sp}
    (hwell : r.wellSaid = true) (hdf : d.params.defaults = []) (hlen : r.args.length = ps.length) (hr : Room k callerA)
    (hY : ∀ (w : World) (h : Heap), YP w h → (K w.params).In h)
    (F : ∀ (w : World) (mg : Str → Option Value) (fa : Addr) (h : Heap), YP w h → (K w.params).In h → h.Ns mainGlobals mg → mg d.name = some (.ref fa) →
      ∃ fd : FuncData, (∀ (s : Shared) (us : List Value), us.length = ps.length → BindsTo s fd ⟨us, []⟩ (ps.zip us)) ∧
        ∀ base : Heap, (K w.params).In base → base.Ns mainGlobals mg → FnOk r.prog w (K w.params) mg base CX k fa fd ps (sp (K w.params)))
    (hsp : ∀ (K : PySem.W.Frag) (H : Hp) (xs : List V) (a : Codec.denoteAll r.args), OnlyF H → Codec.withinAll r.args a = true → Codec.app r.args r.asked a = true → DwAll K H xs (Codec.encAll r.args a) →
      sp K xs H (fun v H' => Dw K H' v (r.ret.enc (Codec.app r.args r.f a))) fun _ _ _ => False)
    (hCX : ∀ (H : Hp) (s : Shared) (e : Value) (s' : Shared), CX [] H s (fun _ _ _ => False) e s' → False) :
    PySem.W.WalkOS q loose XP YP r d [] (fun f vs => PySem.call f vs) :=
  walk_spec (K := K) (CX := fun _ => CX) (sp := fun w => sp (K w.params)) hwell hdf hlen hr hY F (fun w H xs a h1 h2 h3 h4 => hsp (K w.params) H xs a h1 h2 h3 h4) fun _ H s e s' => hCX H s e s'
end L2
-- rests on (row put in by the clerk, for the bench that shows a file only what it spells): KE.SpHead KE.OsShapes
end

set_option linter.all false
namespace Et
/-! ### the crank's own values -/
structure Ck where
  lt : Option Nat
  iv : Option Nat
  ce : Nat
  pl : Nat
  tu : Option Nat
  cam : Bool
def Ck.new : Ck := ⟨none, none, 0, 0, none, false⟩
def Ck.ivAt (c : Ck) (t : Nat) : Option Nat := match c.lt with
  | none => none
  | some p => if 1048576 < t - p then none else some (t - p)
def Ck.gap (c : Ck) (n : Option Nat) : Bool := match n, c.iv with
  | some n, some e => decide (27 * e < 20 * n)
  | _, _ => false
def Ck.last (c : Ck) : Bool := decide (c.ce ≠ 0) && decide (c.pl = 34)
def Ck.move (c : Ck) (g : Bool) : Ck :=
  if g then { c with ce := if c.last then 2 else 1, pl := 0 }
  else if c.iv = none ∨ c.last = true then { c with ce := 0 }
  else if c.ce ≠ 0 then { c with pl := c.pl + 1 } else c
def Ck.begun (c : Ck) : Option Nat := if c.cam then some 0 else if c.tu = some 0 then some 1 else none
def Ck.settle (c : Ck) : Ck :=
  if c.ce ≠ 2 then { c with tu := none, cam := false }
  else if c.pl = 0 then { c with tu := c.begun, cam := false } else c
def Ck.pass (c : Ck) (t : Nat) : Ck := ({ c with lt := some t, iv := c.ivAt t }.move (c.gap (c.ivAt t))).settle
def Ck.known (c : Ck) : Bool := decide (c.ce = 2) && c.tu.isSome
/-- the crank as the specification has it -/
structure RelCk (c : Ck) (a : Ks207.Abs) : Prop where
  lt : c.lt = a.t
  iv : c.iv = a.d
  ce : (c.ce = 0 ∧ a.at_ = none ∧ a.sure = false) ∨ (c.ce = 1 ∧ a.at_ = some c.pl ∧ a.sure = false) ∨ (c.ce = 2 ∧ a.at_ = some c.pl ∧ a.sure = true)
  tu : c.tu = a.turn
  un : a.sure = false → a.turn = none
  cam : a.d ≠ none → c.cam = a.cam
  dn : a.d = none → a.at_ = none
  tn : a.t = none → a.d = none
  pl : c.pl ≤ 34
  dp : ∀ n, a.d = some n → 1 ≤ n ∧ n ≤ 1048576
  tr : ∀ r, a.turn = some r → r ≤ 1
theorem rel_new : RelCk Ck.new Ks207.start := ⟨rfl, rfl, .inl ⟨rfl, rfl, rfl⟩, rfl, (fun _ => rfl), (fun h => absurd rfl h), (fun _ => rfl), (fun _ => rfl), Nat.zero_le _, (fun n h => by cases h), (fun n h => by cases h)⟩
theorem rel_cam {c : Ck} {a : Ks207.Abs} (h : RelCk c a) : RelCk { c with cam := true } { a with cam := true } := ⟨h.lt, h.iv, h.ce, h.tu, h.un, fun _ => rfl, h.dn, h.tn, h.pl, h.dp, h.tr⟩
theorem rel_tooth {c : Ck} {a : Ks207.Abs} {t : Nat} (h : RelCk c a) (ht : ∀ p, a.t = some p → p < t) : RelCk (c.pass t) (a.tooth t) := by
  obtain ⟨clt, civ, cce, cpl, ctu, ccam⟩ := c
  obtain ⟨at', ad, aat, asure, aturn, acam⟩ := a
  obtain ⟨h1, h2, h3, h4, h5, h6, h7, h8, h9, h10, h11⟩ := h
  simp only at h1 h2 h3 h4 h5 h6 h7 h8 h9 h10 h11 ht
  subst h1 h2 h4
  cases clt with
  | none =>
    have e := h8 rfl
    subst e
    have e := h7 rfl
    subst e
    have : asure = false := by
      rcases h3 with q | q | q
      · exact q.2.2
      · exact q.2.2
      · exact absurd q.2.1 (by simp)
    subst this
    have := h5 rfl
    subst this
    simp [Ck.pass, Ck.ivAt, Ck.gap, Ck.move, Ck.settle, Ks207.Abs.tooth, Ks207.start]
    constructor <;> simp_all
  | some p =>
    have hp := ht p rfl
    by_cases hs : 1048576 < t - p
    · simp [Ck.pass, Ck.ivAt, Ck.gap, Ck.move, Ck.settle, Ks207.Abs.tooth, Ks207.start, Ks207.STOP, hs]
      constructor <;> simp_all
    · have hs' : ¬ (2 ^ 20 < t - p) := by omega
      cases civ with
      | none =>
        have e := h7 rfl
        subst e
        have : asure = false := by
          rcases h3 with q | q | q
          · exact q.2.2
          · exact q.2.2
          · exact absurd q.2.1 (by simp)
        subst this
        have := h5 rfl
        subst this
        rcases h3 with q | q | q
        · obtain ⟨rfl, _, _⟩ := q
          simp [Ck.pass, Ck.ivAt, Ck.gap, Ck.move, Ck.settle, Ck.last, Ks207.Abs.tooth, Ks207.STOP, hs, hs', Ks207.unsure, Ks207.gap]
          constructor <;> simp_all <;> omega
        · exact absurd q.2.1 (by simp)
        · exact absurd q.2.1 (by simp)
      | some e =>
        have h6' := h6 (by simp)
        subst h6'
        by_cases hg : 27 * e < 20 * (t - p)
        · rcases h3 with ⟨rfl, rfl, rfl⟩ | ⟨rfl, rfl, rfl⟩ | ⟨rfl, rfl, rfl⟩
          · simp [Ck.pass, Ck.ivAt, Ck.gap, Ck.move, Ck.settle, Ck.last, Ks207.Abs.tooth, Ks207.STOP, hs, hs', Ks207.unsure, Ks207.gap, hg]
            constructor <;> simp_all <;> omega
          · by_cases hk : cpl = 34
            · subst hk
              have := h5 rfl
              subst this
              simp [Ck.pass, Ck.ivAt, Ck.gap, Ck.move, Ck.settle, Ck.last, Ck.begun, Ks207.Abs.tooth, Ks207.STOP, Ks207.TEETH, hs, hs', Ks207.unsure, Ks207.gap, hg]
              constructor <;> simp_all <;> (try split) <;> (try simp_all) <;> (try omega)
            · simp [Ck.pass, Ck.ivAt, Ck.gap, Ck.move, Ck.settle, Ck.last, Ck.begun, Ks207.Abs.tooth, Ks207.STOP, Ks207.TEETH, hs, hs', Ks207.unsure, Ks207.gap, hg, hk]
              constructor <;> simp_all <;> omega
          · by_cases hk : cpl = 34
            · subst hk
              simp [Ck.pass, Ck.ivAt, Ck.gap, Ck.move, Ck.settle, Ck.last, Ck.begun, Ks207.Abs.tooth, Ks207.STOP, Ks207.TEETH, hs, hs', Ks207.unsure, Ks207.gap, hg]
              constructor <;> simp_all <;> (try split) <;> (try simp_all) <;> (try split) <;> (try simp_all) <;> (try omega)
            · simp [Ck.pass, Ck.ivAt, Ck.gap, Ck.move, Ck.settle, Ck.last, Ck.begun, Ks207.Abs.tooth, Ks207.STOP, Ks207.TEETH, hs, hs', Ks207.unsure, Ks207.gap, hg, hk]
              constructor <;> simp_all <;> omega
        · rcases h3 with ⟨rfl, rfl, rfl⟩ | ⟨rfl, rfl, rfl⟩ | ⟨rfl, rfl, rfl⟩
          · simp [Ck.pass, Ck.ivAt, Ck.gap, Ck.move, Ck.settle, Ck.last, Ks207.Abs.tooth, Ks207.STOP, hs, hs', Ks207.unsure, Ks207.gap, hg]
            constructor <;> simp_all <;> omega
          · by_cases hk : cpl = 34
            · subst hk
              simp [Ck.pass, Ck.ivAt, Ck.gap, Ck.move, Ck.settle, Ck.last, Ck.begun, Ks207.Abs.tooth, Ks207.STOP, Ks207.TEETH, hs, hs', Ks207.unsure, Ks207.gap, hg]
              constructor <;> simp_all <;> (try omega)
            · simp [Ck.pass, Ck.ivAt, Ck.gap, Ck.move, Ck.settle, Ck.last, Ck.begun, Ks207.Abs.tooth, Ks207.STOP, Ks207.TEETH, hs, hs', Ks207.unsure, Ks207.gap, hg, hk]
              constructor <;> simp_all <;> omega
          · by_cases hk : cpl = 34
            · subst hk
              simp [Ck.pass, Ck.ivAt, Ck.gap, Ck.move, Ck.settle, Ck.last, Ck.begun, Ks207.Abs.tooth, Ks207.STOP, Ks207.TEETH, hs, hs', Ks207.unsure, Ks207.gap, hg]
              constructor <;> simp_all <;> (try omega)
            · simp [Ck.pass, Ck.ivAt, Ck.gap, Ck.move, Ck.settle, Ck.last, Ck.begun, Ks207.Abs.tooth, Ks207.STOP, Ks207.TEETH, hs, hs', Ks207.unsure, Ks207.gap, hg, hk]
              constructor <;> simp_all <;> omega
/-! ### where it is known -/
structure HereC (c : Ck) (e : Ks209.Here) : Prop where
  ex : ∃ t r n, c.lt = some t ∧ c.tu = some r ∧ c.iv = some n ∧ 1 ≤ n ∧ n ≤ 1048576 ∧ r ≤ 1 ∧ c.pl ≤ 34 ∧ e = ⟨t, 64 * (36 * r + c.pl), max 1 (if c.pl = 0 then n / 2 else n), if c.pl = 34 then 128 else 64⟩
theorem here_none {c : Ck} {a : Ks207.Abs} (h : RelCk c a) (k : c.known = false) : Ks209.here a = none := by
  obtain ⟨at', ad, aat, asure, aturn, acam⟩ := a
  have h1 := h.ce
  have h2 := h.tu
  simp only at h1 h2
  unfold Ck.known at k
  rw [h2] at k
  rcases h1 with ⟨h1, h3, h4⟩ | ⟨h1, h3, h4⟩ | ⟨h1, h3, h4⟩
  · subst h4
    simp [Ks209.here]
  · subst h4
    simp [Ks209.here]
  · subst h3 h4
    simp [h1] at k
    subst k
    simp [Ks209.here]
theorem here_some {c : Ck} {a : Ks207.Abs} (h : RelCk c a) (k : c.known = true) : ∃ e, Ks209.here a = some e ∧ HereC c e := by
  obtain ⟨at', ad, aat, asure, aturn, acam⟩ := a
  have h1 := h.ce
  have h2 := h.tu
  have h3 := h.dn
  have h4 := h.tn
  have h5 := h.lt
  have h6 := h.iv
  have h7 := h.dp
  have h8 := h.tr
  have h9 := h.pl
  simp only at h1 h2 h3 h4 h5 h6 h7 h8
  unfold Ck.known at k
  rw [h2, Bool.and_eq_true] at k
  obtain ⟨k1, k2⟩ := k
  have k1 := of_decide_eq_true k1
  rcases h1 with ⟨q1, q3, q4⟩ | ⟨q1, q3, q4⟩ | ⟨q1, q3, q4⟩
  · omega
  · omega
  · subst q4
    cases ad with
    | none => exact absurd (q3.symm.trans (h3 rfl)) (by simp)
    | some n =>
      cases at' with
      | none => exact absurd (h4 rfl) (by simp)
      | some t =>
        cases aturn with
        | none => simp at k2
        | some r =>
          subst q3
          exact ⟨_, rfl, ⟨t, r, n, h5, h2, h6, (h7 n rfl).1, (h7 n rfl).2, h8 r rfl, h9, rfl⟩⟩
/-! ### tables -/
def share (a b u : Int) : Int := a * (256 - u) + b * u
def pyLook (tb : List Int) (x y : Nat) : Int :=
  (share (share (tb.getD (16 * (y / 256) + x / 256) 0) (tb.getD (16 * (y / 256) + min (x / 256 + 1) 15) 0) ((x % 256 : Nat) : Int)) (share (tb.getD (16 * min (y / 256 + 1) 15 + x / 256) 0) (tb.getD (16 * min (y / 256 + 1) 15 + min (x / 256 + 1) 15) 0) ((x % 256 : Nat) : Int)) ((y % 256 : Nat) : Int) + 32768) / 65536
theorem look_eq {tb : List Int} {x y : Nat} (hx : x ≤ 3840) (hy : y ≤ 3840) : pyLook tb x y = Ks208.look tb x y := by
  unfold pyLook Ks208.look Ks208.at_ share
  simp only
  have hu : x % 256 ≤ 255 := by omega
  have hv : y % 256 ≤ 255 := by omega
  have e1 : (((256 - x % 256) * (256 - y % 256) : Nat) : Int) = (256 - ((x % 256 : Nat) : Int)) * (256 - ((y % 256 : Nat) : Int)) := by
    rw [Int.natCast_mul]
    congr 1 <;> omega
  have e2 : ((x % 256 * (256 - y % 256) : Nat) : Int) = ((x % 256 : Nat) : Int) * (256 - ((y % 256 : Nat) : Int)) := by
    rw [Int.natCast_mul]
    congr 1 <;> omega
  have e3 : (((256 - x % 256) * (y % 256) : Nat) : Int) = (256 - ((x % 256 : Nat) : Int)) * ((y % 256 : Nat) : Int) := by
    rw [Int.natCast_mul]
    congr 1 <;> omega
  have e4 : ((x % 256 * (y % 256) : Nat) : Int) = ((x % 256 : Nat) : Int) * ((y % 256 : Nat) : Int) := Int.natCast_mul _ _
  rw [e1, e2, e3, e4]
  congr 2
  by_cases h1 : x % 256 = 0
  · by_cases h2 : y % 256 = 0
    · simp only [h1, h2, if_true]
      grind
    · have q2 : min (y / 256 + 1) 15 = y / 256 + 1 := by omega
      simp only [h1, h2, q2, if_true, if_false]
      grind
  · have q1 : min (x / 256 + 1) 15 = x / 256 + 1 := by omega
    by_cases h2 : y % 256 = 0
    · simp only [h1, h2, q1, if_true, if_false]
      grind
    · have q2 : min (y / 256 + 1) 15 = y / 256 + 1 := by omega
      simp only [h1, h2, q1, q2, if_false]
      generalize ((x % 256 : Nat) : Int) = u
      generalize ((y % 256 : Nat) : Int) = v
      grind
theorem share_nn {a b u : Int} (ha : 0 ≤ a) (hb : 0 ≤ b) (h0 : 0 ≤ u) (h1 : u ≤ 256) : 0 ≤ share a b u :=
  Int.add_nonneg (Int.mul_nonneg ha (by omega)) (Int.mul_nonneg hb h0)
theorem share_le {a b u M : Int} (ha : a ≤ M) (hb : b ≤ M) (h0 : 0 ≤ u) (h1 : u ≤ 256) : share a b u ≤ 256 * M := by
  have q1 : a * (256 - u) ≤ M * (256 - u) := Int.mul_le_mul_of_nonneg_right ha (by omega)
  have q2 : b * u ≤ M * u := Int.mul_le_mul_of_nonneg_right hb h0
  have q3 : M * (256 - u) + M * u = 256 * M := by grind
  unfold share
  omega
theorem getD_of {P : Int → Prop} {tb : List Int} (h : ∀ z ∈ tb, P z) (h0 : P 0) (i : Nat) : P (tb.getD i 0) := by
  rw [List.getD_eq_getElem?_getD]
  cases e : tb[i]? with
  | none => exact h0
  | some z => exact h z (List.mem_of_getElem? e)
theorem look_nn {tb : List Int} {x y : Nat} (hx : x ≤ 3840) (hy : y ≤ 3840) (h : ∀ z ∈ tb, 0 ≤ z) : 0 ≤ Ks208.look tb x y := by
  rw [← look_eq hx hy]
  unfold pyLook
  refine Int.ediv_nonneg (Int.add_nonneg ?_ (by decide)) (by decide)
  exact share_nn (share_nn (getD_of h (Int.le_refl 0) _) (getD_of h (Int.le_refl 0) _) (by omega) (by omega)) (share_nn (getD_of h (Int.le_refl 0) _) (getD_of h (Int.le_refl 0) _) (by omega) (by omega)) (by omega) (by omega)
theorem look_le {tb : List Int} {x y : Nat} (hx : x ≤ 3840) (hy : y ≤ 3840) (h : ∀ z ∈ tb, z ≤ 1024) : Ks208.look tb x y ≤ 1024 := by
  rw [← look_eq hx hy]
  unfold pyLook
  have q := share_le (M := 256 * 1024) (share_le (M := 1024) (getD_of h (by decide) (16 * (y / 256) + x / 256)) (getD_of h (by decide) (16 * (y / 256) + min (x / 256 + 1) 15)) (show (0 : Int) ≤ ((x % 256 : Nat) : Int) by omega) (by omega)) (share_le (M := 1024) (getD_of h (by decide) (16 * min (y / 256 + 1) 15 + x / 256)) (getD_of h (by decide) (16 * min (y / 256 + 1) 15 + min (x / 256 + 1) 15)) (show (0 : Int) ≤ ((x % 256 : Nat) : Int) by omega) (by omega)) (show (0 : Int) ≤ ((y % 256 : Nat) : Int) by omega) (by omega)
  omega
/-! ### a cylinder at a tooth, by its parts -/
open Ks209 (Coil State How Here Ev)
def rest1 (a : Nat) (x : Coil) : Coil := if x.st = .done ∧ 1152 ≤ a ∧ a < 2304 then { x with st := .idle } else x
def goOn (h : How) (e : Here) (c a : Nat) (x1 : Coil) : Coil × List Ev :=
  let s := Ks209.comes e a
  let t := max e.t (s - h.dwell)
  if x1.st = .idle ∧ x1.off ≤ e.t ∧ a ≤ 1152 ∧ s - h.dwell < Ks209.comes e e.span then (⟨.on, t, t + h.most⟩, [.at_ 0 c t, .at_ 2 c (t + h.most)]) else (x1, [])
def sparkC (h : How) (e : Here) (c a : Nat) (y : Coil) : Coil × List Ev :=
  let u := if a < e.span then Ks209.comes e a else e.t
  if y.st = .on ∧ (a < e.span ∨ 2304 < a) then (if u ≤ y.on + h.most then (⟨.done, y.on, u⟩, [.at_ 1 c u]) else ({ y with st := .done }, [])) else (y, [])
theorem coil_parts (h : How) (e : Here) (adv c : Nat) (x : Coil) : Ks209.coilAt h e adv c x =
    ((sparkC h e c (Ks209.ahead e.p (Ks209.sparkOf adv c)) (goOn h e c (Ks209.ahead e.p (Ks209.sparkOf adv c)) (rest1 (Ks209.ahead e.p (Ks209.sparkOf adv c)) x)).1).1,
     (goOn h e c (Ks209.ahead e.p (Ks209.sparkOf adv c)) (rest1 (Ks209.ahead e.p (Ks209.sparkOf adv c)) x)).2 ++ (sparkC h e c (Ks209.ahead e.p (Ks209.sparkOf adv c)) (goOn h e c (Ks209.ahead e.p (Ks209.sparkOf adv c)) (rest1 (Ks209.ahead e.p (Ks209.sparkOf adv c)) x)).1).2) := by
  unfold Ks209.coilAt sparkC
  simp only
  generalize Ks209.ahead e.p (Ks209.sparkOf adv c) = a
  rw [show (if (if x.st = State.done ∧ 1152 ≤ a ∧ a < 2304 then { x with st := .idle } else x : Coil).st = State.idle ∧ (if x.st = State.done ∧ 1152 ≤ a ∧ a < 2304 then { x with st := .idle } else x : Coil).off ≤ e.t ∧ a ≤ 1152 ∧ Ks209.comes e a - h.dwell < Ks209.comes e e.span then
      ((⟨.on, max e.t (Ks209.comes e a - h.dwell), max e.t (Ks209.comes e a - h.dwell) + h.most⟩ : Coil), ([.at_ 0 c (max e.t (Ks209.comes e a - h.dwell)), .at_ 2 c (max e.t (Ks209.comes e a - h.dwell) + h.most)] : List Ev)) else ((if x.st = State.done ∧ 1152 ≤ a ∧ a < 2304 then { x with st := .idle } else x : Coil), ([] : List Ev))) = goOn h e c a (rest1 a x) from rfl]
  generalize goOn h e c a (rest1 a x) = y
  split
  · split <;> split <;> simp
  · simp
def evI (l : List Ev) : List Int := l.flatMap fun e => match e with
  | .at_ w c t => [(w : Int), (c : Int), (t : Int)]
theorem evI_app (l m : List Ev) : evI (l ++ m) = evI l ++ evI m := List.flatMap_append
theorem ahead_lt (p b : Nat) : Ks209.ahead p b < 4608 := by unfold Ks209.ahead Ks209.CYCLE; omega
theorem ahead_spark {p adv c : Nat} (ha : adv ≤ 1024) : (1152 * (c : Int) + 640 - (adv : Int) - (p : Int)) % 4608 = ((Ks209.ahead p (Ks209.sparkOf adv c) : Nat) : Int) := by
  unfold Ks209.ahead Ks209.sparkOf Ks209.CYCLE
  omega
theorem ahead_valve {p c : Nat} : (1152 * (c : Int) + 2944 - (p : Int)) % 4608 = ((Ks209.ahead p (Ks209.valveOf c) : Nat) : Int) := by
  unfold Ks209.ahead Ks209.valveOf Ks209.CYCLE
  omega
theorem comes_int (e : Here) (a : Nat) : (e.t : Int) + (e.d : Int) * (a : Int) / 64 = ((Ks209.comes e a : Nat) : Int) := by
  unfold Ks209.comes
  rw [Int.natCast_add, Int.natCast_ediv, Int.natCast_mul]
  rfl
theorem speed_int (e : Here) : (if (3840 : Int) < 1048576 / (e.d : Int) then (3840 : Int) else 1048576 / (e.d : Int)) = ((Ks209.speed e : Nat) : Int) := by
  unfold Ks209.speed
  have q : ((2 ^ 20 / e.d : Nat) : Int) = 1048576 / (e.d : Int) := Int.natCast_ediv _ _
  split <;> omega
theorem cyl_len (h : How) (e : Here) (adv fuel : Nat) : ∀ (c : Nat) (l : List Coil), (Ks209.cylinders h e adv fuel c l).1.length = l.length
  | _, [] => rfl
  | c, x :: r => by
    have := cyl_len h e adv fuel (c + 1) r
    simp [Ks209.cylinders, this]
/-! ### the calls of a list -/
abbrev Call := List (List Int)
theorem whole_id (c : Call) : PyKs209.whole c = c := by
  unfold PyKs209.whole
  split <;> rfl
theorem map_whole (cs : List Call) : cs.map PyKs209.whole = cs := by
  induction cs with
  | nil => rfl
  | cons c r ih => rw [List.map_cons, whole_id, ih]
theorem answers_eq {ns : List Int} {cs : List Call} (h : PyFlat.calls PyKs209.shape ns.length ns = some cs) : PyKs209.answers ns = PyFlat.told (PyFlat.played Ks209Neutral.step Ks209Neutral.start cs) := by
  unfold PyKs209.answers PyKs209.calls
  rw [h]
  simp only [map_whole]
theorem asked_eq {ns : List Int} (h : PyKs209.answers_asked ns = true) : ∃ cs, PyFlat.calls PyKs209.shape ns.length ns = some cs ∧ Ks209Neutral.askedFrom false Ks209Neutral.start cs = true := by
  unfold PyKs209.answers_asked PyKs209.calls at h
  cases e : PyFlat.calls PyKs209.shape ns.length ns with
  | none => rw [e] at h; simp at h
  | some cs =>
    rw [e] at h
    simp only [map_whole] at h
    refine ⟨cs, rfl, ?_⟩
    unfold Ks209Neutral.asked Ks209Neutral.orderly at h
    simp only [Bool.and_eq_true] at h
    exact h.2.1.2
/-- one call at the head of a list -/
inductive Head : Int → List Int → Call → List Int → Prop
  | start {x0 x1 : Int} {adv fuel t : List Int} : 0 ≤ x0 → x0 < 2 ^ 32 → 0 ≤ x1 → x1 < 2 ^ 32 → adv.length = 256 → fuel.length = 256 → (∀ z ∈ adv, -32768 ≤ z ∧ z < 32768) → (∀ z ∈ fuel, -32768 ≤ z ∧ z < 32768) →
      Head 0 (x0 :: x1 :: 256 :: (adv ++ 256 :: (fuel ++ t))) [[0, x0, x1], adv, fuel] t
  | tooth {x : Int} {t : List Int} : 0 ≤ x → x < 2 ^ 64 → Head 1 (x :: t) [[1, x]] t
  | cam {t : List Int} : Head 2 t [[2]] t
  | load {x : Int} {t : List Int} : 0 ≤ x → x < 2 ^ 32 → Head 3 (x :: t) [[3, x]] t
  | tick {x : Int} {t : List Int} : 0 ≤ x → x < 2 ^ 64 → Head 4 (x :: t) [[4, x]] t
  | state {t : List Int} : Head 5 t [[5]] t
theorem row_some {l x r : List Int} (h : PyFlat.row l = some (x, r)) : ∃ n : Int, l = n :: (x ++ r) ∧ n = (x.length : Int) := by
  cases l with
  | nil => cases h
  | cons n l =>
    unfold PyFlat.row at h
    simp only at h
    split at h
    · next c =>
      cases h
      refine ⟨n, by rw [List.take_append_drop], ?_⟩
      rw [List.length_take]
      omega
    · cases h
theorem calls_step {f : Nat} {p : Int} {r : List Int} {l : List Call} (h : PyFlat.calls PyKs209.shape f (p :: r) = some l) : ∃ c t cs f', l = c :: cs ∧ PyFlat.call PyKs209.shape (p :: r) = some (c, t) ∧ PyFlat.calls PyKs209.shape f' t = some cs := by
  cases f with
  | zero => simp [PyFlat.calls] at h
  | succ f =>
    unfold PyFlat.calls at h
    split at h
    · cases h
    · next c t e =>
      split at h
      · cases h
      · next cs e2 =>
        cases h
        exact ⟨c, t, cs, f, rfl, e, e2⟩
theorem call_head {p : Int} {r t : List Int} {c : Call} (h : PyFlat.call PyKs209.shape (p :: r) = some (c, t)) (hf : Ks209Neutral.form c = true) : Head p r c t := by
  unfold PyFlat.call at h
  simp only at h
  unfold PyKs209.shape at h
  by_cases h0 : p = 0
  · subst h0
    simp only [if_true] at h
    split at h
    · cases h
    · next hl =>
      match r, hl, h with
      | x0 :: x1 :: r, _, h =>
        simp only [List.drop_succ_cons, List.drop_zero, List.take_succ_cons, List.take_zero] at h
        unfold PyFlat.rows at h
        split at h
        · cases h
        · next xs t' e =>
          cases h
          split at e
          · cases e
          · next x s e1 =>
            split at e
            · cases e
            · next xs' t'' e2 =>
              cases e
              unfold PyFlat.rows at e2
              split at e2
              · cases e2
              · next y s' e3 =>
                unfold PyFlat.rows at e2
                simp only at e2
                cases e2
                obtain ⟨n1, q1, q2⟩ := row_some e1
                obtain ⟨n2, q3, q4⟩ := row_some e3
                subst q1 q3
                simp [Ks209Neutral.form, Ks209Neutral.forms, Ks209Neutral.num, Ks209Neutral.at_, Ks209Neutral.small, Ks209Neutral.fits] at hf
                obtain ⟨⟨⟨⟨a1, a2⟩, a3⟩, a4⟩, a5⟩ := hf
                have l1 : n1 = 256 := by omega
                have l2 : n2 = 256 := by omega
                subst l1 l2
                exact .start a1 (of_decide_eq_true a2) a3.1 (of_decide_eq_true a3.2) a5.1.1 a5.1.2 a5.2.1 a5.2.2
      | [_], hl, _ => simp at hl
      | [], hl, _ => simp at hl
  · by_cases h1 : p = 1
    · subst h1
      simp only [h0, if_true, if_false] at h
      split at h
      · cases h
      · next hl =>
        match r, hl, h with
        | x :: r, _, h =>
          simp only [List.drop_succ_cons, List.drop_zero, List.take_succ_cons, List.take_zero, PyFlat.rows] at h
          cases h
          simp [Ks209Neutral.form, Ks209Neutral.forms, Ks209Neutral.num, Ks209Neutral.at_, Ks209Neutral.small, Ks209Neutral.fits] at hf
          exact .tooth hf.1 (of_decide_eq_true hf.2)
        | [], hl, _ => simp at hl
    · by_cases h2 : p = 2
      · subst h2
        simp only [h0, h1, if_true, if_false, Nat.not_lt_zero, List.drop_zero, List.take_zero, PyFlat.rows] at h
        cases h
        exact .cam
      · by_cases h3 : p = 3
        · subst h3
          simp only [h0, h1, h2, if_true, if_false] at h
          split at h
          · cases h
          · next hl =>
            match r, hl, h with
            | x :: r, _, h =>
              simp only [List.drop_succ_cons, List.drop_zero, List.take_succ_cons, List.take_zero, PyFlat.rows] at h
              cases h
              simp [Ks209Neutral.form, Ks209Neutral.forms, Ks209Neutral.num, Ks209Neutral.at_, Ks209Neutral.small, Ks209Neutral.fits] at hf
              exact .load hf.1 (of_decide_eq_true hf.2)
            | [], hl, _ => simp at hl
        · by_cases h4 : p = 4
          · subst h4
            simp only [h0, h1, h2, h3, if_true, if_false] at h
            split at h
            · cases h
            · next hl =>
              match r, hl, h with
              | x :: r, _, h =>
                simp only [List.drop_succ_cons, List.drop_zero, List.take_succ_cons, List.take_zero, PyFlat.rows] at h
                cases h
                simp [Ks209Neutral.form, Ks209Neutral.forms, Ks209Neutral.num, Ks209Neutral.at_, Ks209Neutral.small, Ks209Neutral.fits] at hf
                exact .tick hf.1 (of_decide_eq_true hf.2)
              | [], hl, _ => simp at hl
          · by_cases h5 : p = 5
            · subst h5
              simp only [h0, h1, h2, h3, h4, if_true, if_false, Nat.not_lt_zero, List.drop_zero, List.take_zero, PyFlat.rows] at h
              cases h
              exact .state
            · simp only [h0, h1, h2, h3, h4, h5, if_false] at h
              cases h
/-- what is asked, call by call -/
theorem asked_step {b : Bool} {s : Ks209Neutral.S} {c : Call} {cs : List Call} (h : Ks209Neutral.askedFrom b s (c :: cs) = true) : Ks209Neutral.form c = true ∧ (b = true ∨ Ks209Neutral.num c 0 0 = 0) ∧
    Ks209Neutral.askedFrom (b || (Ks209Neutral.num c 0 0 == 0 && (Ks209Neutral.step s c).2.headD (-1) == 0)) (Ks209Neutral.step s c).1 cs = true := by
  unfold Ks209Neutral.askedFrom at h
  simp only [Bool.and_eq_true, Bool.or_eq_true, beq_iff_eq] at h
  exact ⟨h.1.1, h.1.2, h.2⟩
end Et

set_option linter.all false
namespace Et
open Ks209 (Coil State How Here Ev)
/-! ### the crank's tests -/
def Ck.behind (c : Ck) (t : Nat) : Bool := match c.lt with
  | none => true
  | some l => decide (l < t)
def Ck.still (c : Ck) (t : Nat) : Bool := match c.lt with
  | none => false
  | some l => decide (1048576 < t - l)
theorem wrong_eq {c : Ck} {s : Ks209.Abs} {t : Nat} (h : RelCk c s.ck) : Ks209.wrong s t = !(decide (t < 4611686018427387904) && c.behind t) := by
  unfold Ks209.wrong Ck.behind
  rw [h.lt]
  unfold Ks207.TIMES
  cases s.ck.t with
  | none => by_cases q : t < 4611686018427387904 <;> simp [q] <;> omega
  | some p => by_cases q : t < 4611686018427387904 <;> by_cases r : p < t <;> simp [q, r] <;> omega
theorem stop_is : Ks207.STOP = 1048576 := by decide
theorem still_eq {c : Ck} {a : Ks207.Abs} {t : Nat} (h : RelCk c a) : a.t.any (fun p => decide (p + Ks207.STOP < t)) = c.still t := by
  unfold Ck.still
  rw [h.lt, stop_is]
  cases a.t with
  | none => rfl
  | some p =>
    rw [Option.any_some]
    by_cases q : 1048576 < t - p
    · have r : p + 1048576 < t := by omega
      rw [decide_eq_true r]
      exact (decide_eq_true q).symm
    · have r : ¬ p + 1048576 < t := by omega
      rw [decide_eq_false r]
      exact (decide_eq_false q).symm
/-! ### four cylinders, one behind another -/
def mapTo (f : Nat → Coil → Coil) (i : Nat) (xs : List Coil) : List Coil := xs.mapIdx fun j x => if j < i then f j x else x
theorem mapTo_zero (f : Nat → Coil → Coil) (xs : List Coil) : mapTo f 0 xs = xs := by
  unfold mapTo
  apply List.ext_getElem?
  intro j
  rw [List.getElem?_mapIdx]
  cases xs[j]? <;> simp
theorem mapTo_get {f : Nat → Coil → Coil} {i j : Nat} {xs : List Coil} {x : Coil} (h : xs[j]? = some x) : (mapTo f i xs)[j]? = some (if j < i then f j x else x) := by
  unfold mapTo
  rw [List.getElem?_mapIdx, h]
  rfl
theorem mapTo_here {f : Nat → Coil → Coil} {i : Nat} {xs : List Coil} {x : Coil} (h : xs[i]? = some x) : (mapTo f i xs)[i]? = some x := by
  rw [mapTo_get h, if_neg (Nat.lt_irrefl i)]
theorem mapTo_set {f : Nat → Coil → Coil} {i : Nat} {xs : List Coil} {x : Coil} (h : xs[i]? = some x) : (mapTo f i xs).set i (f i x) = mapTo f (i + 1) xs := by
  apply List.ext_getElem?
  intro j
  by_cases e : j = i
  · subst e
    have l : j < (mapTo f j xs).length := (List.getElem?_eq_some_iff.mp (mapTo_here (f := f) h)).1
    rw [List.getElem?_set_self l, mapTo_get h, if_pos (Nat.lt_succ_self j)]
  · rw [List.getElem?_set_ne (fun q => e q.symm)]
    unfold mapTo
    rw [List.getElem?_mapIdx, List.getElem?_mapIdx]
    cases xs[j]? with
    | none => rfl
    | some y =>
      simp only [Option.map_some]
      by_cases q : j < i
      · rw [if_pos q, if_pos (by omega)]
      · rw [if_neg q, if_neg (by omega)]
theorem mapTo_all {f : Nat → Coil → Coil} {i : Nat} {xs : List Coil} (h : xs.length ≤ i) : mapTo f i xs = xs.mapIdx f := by
  apply List.ext_getElem?
  intro j
  unfold mapTo
  rw [List.getElem?_mapIdx, List.getElem?_mapIdx]
  cases e : xs[j]? with
  | none => rfl
  | some y =>
    have := (List.getElem?_eq_some_iff.mp e).1
    simp only [Option.map_some]
    rw [if_pos (by omega)]
def evTo (g : Nat → Coil → List Ev) (i : Nat) (xs : List Coil) : List Ev := ((xs.mapIdx g).take i).flatten
theorem evTo_zero (g : Nat → Coil → List Ev) (xs : List Coil) : evTo g 0 xs = [] := by
  unfold evTo
  rw [List.take_zero]
  rfl
theorem take_snoc {α : Type} : ∀ {l : List α} {i : Nat} {x : α}, l[i]? = some x → l.take (i + 1) = l.take i ++ [x]
  | [], i, x, h => by simp at h
  | a :: l, 0, x, h => by
    have e : a = x := Option.some.inj h
    subst e
    rfl
  | a :: l, i + 1, x, h => by
    have ih := take_snoc (l := l) (i := i) (x := x) h
    show a :: l.take (i + 1) = a :: l.take i ++ [x]
    rw [ih]
    rfl
theorem evTo_succ {g : Nat → Coil → List Ev} {i : Nat} {xs : List Coil} {x : Coil} (h : xs[i]? = some x) : evTo g (i + 1) xs = evTo g i xs ++ g i x := by
  unfold evTo
  rw [take_snoc (x := g i x) (by rw [List.getElem?_mapIdx, h]; rfl), List.flatten_append]
  simp
theorem evTo_all {g : Nat → Coil → List Ev} {i : Nat} {xs : List Coil} (h : xs.length ≤ i) : evTo g i xs = (xs.mapIdx g).flatten := by
  unfold evTo
  rw [List.take_of_length_le (by rw [List.length_mapIdx]; exact h)]
theorem evI_len (l : List Ev) : (evI l).length = 3 * l.length := by
  unfold evI
  induction l with
  | nil => rfl
  | cons e r ih =>
    rw [List.flatMap_cons, List.length_append, ih]
    cases e
    simp
    omega
theorem cyl_map (h : How) (e : Here) (adv fuel : Nat) : ∀ (c : Nat) (l : List Coil), Ks209.cylinders h e adv fuel c l = (l.mapIdx (fun j x => (Ks209.coilAt h e adv (c + j) x).1), (l.mapIdx (fun j x => (Ks209.coilAt h e adv (c + j) x).2 ++ Ks209.valveAt e fuel (c + j))).flatten)
  | c, [] => rfl
  | c, x :: r => by
    rw [Ks209.cylinders, cyl_map h e adv fuel (c + 1) r]
    have q : ∀ j : Nat, c + 1 + j = c + (j + 1) := fun j => by omega
    have q1 : (fun (j : Nat) (x : Coil) => (Ks209.coilAt h e adv (c + 1 + j) x).1) = fun j x => (Ks209.coilAt h e adv (c + (j + 1)) x).1 := by
      funext j x
      rw [q j]
    have q2 : (fun (j : Nat) (x : Coil) => (Ks209.coilAt h e adv (c + 1 + j) x).2 ++ Ks209.valveAt e fuel (c + 1 + j)) = fun j x => (Ks209.coilAt h e adv (c + (j + 1)) x).2 ++ Ks209.valveAt e fuel (c + (j + 1)) := by
      funext j x
      rw [q j]
    rw [q1, q2]
    simp only [List.mapIdx_cons, List.flatten_cons, Nat.add_zero]
theorem idled_map (l : List Coil) (t : Nat) : Ks209.idled l t = l.mapIdx fun _ x => ⟨.idle, x.on, min x.off t⟩ := by
  unfold Ks209.idled
  apply List.ext_getElem?
  intro j
  rw [List.getElem?_mapIdx, List.getElem?_map]
theorem softly_go (t : Nat) : ∀ (l : List Coil) (k : Nat), (l.zipIdx k).filterMap (fun x => if t < x.1.off then some (Ev.at_ 2 x.2 t) else none) = (l.mapIdx fun j x => if t < x.off then [Ev.at_ 2 (k + j) t] else []).flatten
  | [], k => rfl
  | x :: r, k => by
    rw [List.zipIdx_cons, List.filterMap_cons, softly_go t r (k + 1)]
    have q1 : (fun (j : Nat) (x : Coil) => if t < x.off then [Ev.at_ 2 (k + 1 + j) t] else []) = fun j x => if t < x.off then [Ev.at_ 2 (k + (j + 1)) t] else [] := by
      funext j x
      rw [show k + 1 + j = k + (j + 1) by omega]
    rw [q1]
    simp only [List.mapIdx_cons, List.flatten_cons, Nat.add_zero]
    by_cases c : t < x.off
    · rw [if_pos c, if_pos c]
      rfl
    · rw [if_neg c, if_neg c]
      rfl
theorem softly_map (l : List Coil) (t : Nat) : Ks209.softly l t = (l.mapIdx fun j x => if t < x.off then [Ev.at_ 2 j t] else []).flatten := by
  unfold Ks209.softly
  rw [softly_go t l 0]
  simp only [Nat.zero_add]
def coilG (h : How) (e : Here) (adv fuel : Nat) (c : Nat) (x : Coil) : List Ev := (Ks209.coilAt h e adv c x).2 ++ Ks209.valveAt e fuel c
def softG (t : Nat) (c : Nat) (x : Coil) : List Ev := if t < x.off then [Ev.at_ 2 c t] else []
def coilF (h : How) (e : Here) (adv : Nat) (c : Nat) (x : Coil) : Coil := (Ks209.coilAt h e adv c x).1
def idleF (t : Nat) (c : Nat) (x : Coil) : Coil := ⟨.idle, x.on, min x.off t⟩
theorem cyl_map0 (h : How) (e : Here) (adv fuel : Nat) (l : List Coil) : Ks209.cylinders h e adv fuel 0 l = (l.mapIdx (coilF h e adv), (l.mapIdx (coilG h e adv fuel)).flatten) := by
  rw [cyl_map]
  simp only [Nat.zero_add]
  rfl
theorem idled_map0 (l : List Coil) (t : Nat) : Ks209.idled l t = l.mapIdx (idleF t) := idled_map l t
theorem softly_map0 (l : List Coil) (t : Nat) : Ks209.softly l t = (l.mapIdx (softG t)).flatten := softly_map l t
theorem coilG_len (h : How) (e : Here) (adv fuel c : Nat) (x : Coil) : (coilG h e adv fuel c x).length ≤ 5 := by
  unfold coilG
  rw [coil_parts]
  simp only [List.length_append]
  have a : (goOn h e c (Ks209.ahead e.p (Ks209.sparkOf adv c)) (rest1 (Ks209.ahead e.p (Ks209.sparkOf adv c)) x)).2.length ≤ 2 := by
    unfold goOn
    simp only
    split
    · exact Nat.le_refl 2
    · exact Nat.zero_le 2
  have b : ∀ y, (sparkC h e c (Ks209.ahead e.p (Ks209.sparkOf adv c)) y).2.length ≤ 1 := by
    intro y
    unfold sparkC
    simp only
    split
    · have q : ∀ (p : Prop) [Decidable p] (a b : Coil) (u : Ev), (if p then (a, [u]) else (b, [])).2.length ≤ 1 := by
        intro p _ a b u
        split
        · exact Nat.le_refl 1
        · exact Nat.zero_le 1
      exact q _ _ _ _
    · exact Nat.zero_le 1
  have d : (Ks209.valveAt e fuel c).length ≤ 2 := by
    unfold Ks209.valveAt
    split
    · exact Nat.le_refl 2
    · exact Nat.zero_le 2
  have := b (goOn h e c (Ks209.ahead e.p (Ks209.sparkOf adv c)) (rest1 (Ks209.ahead e.p (Ks209.sparkOf adv c)) x)).1
  omega
theorem softG_len (t c : Nat) (x : Coil) : (softG t c x).length ≤ 5 := by
  unfold softG
  split
  · exact Nat.succ_le_succ (Nat.zero_le 4)
  · exact Nat.zero_le 5
/-! ### the calls, one by one -/
theorem sa_say (s : Ks209.Abs) (v : Int) (l : List Ev) : Ks209Neutral.sa (s, Ks209.say v, l) = (s, v :: evI l) := rfl
theorem step_start (s : Ks209.Abs) (x0 x1 : Int) (adv fuel : List Int) : Ks209Neutral.step s [[0, x0, x1], adv, fuel] = Ks209Neutral.sa (Ks209.act s (.start ⟨x0.toNat, x1.toNat, adv, fuel⟩)) := rfl
theorem step_tooth (s : Ks209.Abs) (x : Int) : Ks209Neutral.step s [[1, x]] = Ks209Neutral.sa (Ks209.act s (.tooth x.toNat)) := rfl
theorem step_cam (s : Ks209.Abs) : Ks209Neutral.step s [[2]] = Ks209Neutral.sa (Ks209.act s .cam) := rfl
theorem step_load (s : Ks209.Abs) (x : Int) : Ks209Neutral.step s [[3, x]] = Ks209Neutral.sa (Ks209.act s (.load x.toNat)) := rfl
theorem step_tick (s : Ks209.Abs) (x : Int) : Ks209Neutral.step s [[4, x]] = Ks209Neutral.sa (Ks209.act s (.tick x.toNat)) := rfl
theorem step_state (s : Ks209.Abs) : Ks209Neutral.step s [[5]] = Ks209Neutral.sa (Ks209.act s .state) := rfl
/-- what a call answers, and the state behind it -/
def ansOf (s : Ks209.Abs) (c : Ks209.Call) : List Int := (Ks209Neutral.sa (Ks209.act s c)).2
def nextOf (s : Ks209.Abs) (c : Ks209.Call) : Ks209.Abs := (Ks209Neutral.sa (Ks209.act s c)).1
theorem ok_iff (h : How) : Ks209.okHow h = true ↔ 1 ≤ h.dwell ∧ h.dwell ≤ h.most ∧ h.most ≤ 65536 ∧ (∀ z ∈ h.advance, 0 ≤ z ∧ z ≤ 1024) ∧ ∀ z ∈ h.fuel, 0 ≤ z := by
  unfold Ks209.okHow
  simp only [Bool.and_eq_true, List.all_eq_true, decide_eq_true_eq]
  exact ⟨fun ⟨⟨⟨⟨a, b⟩, c⟩, d⟩, e⟩ => ⟨a, b, c, d, e⟩, fun ⟨a, b, c, d, e⟩ => ⟨⟨⟨⟨a, b⟩, c⟩, d⟩, e⟩⟩
/-! ### a tooth, a tick -/
theorem tooth_wrong {s : Ks209.Abs} {t : Nat} (h : Ks209.wrong s t = true) : nextOf s (.tooth t) = s ∧ ansOf s (.tooth t) = [-22] := by
  unfold nextOf ansOf Ks209.act
  simp only [h, if_true]
  exact ⟨rfl, rfl⟩
theorem tooth_none {s : Ks209.Abs} {t : Nat} (h : Ks209.wrong s t = false) (g : Ks209.here (s.ck.tooth t) = none) : nextOf s (.tooth t) = { s with ck := s.ck.tooth t, coils := Ks209.idled s.coils t } ∧ ansOf s (.tooth t) = 0 :: evI (Ks209.softly s.coils t) := by
  unfold nextOf ansOf Ks209.act Ks209.Abs.tooth
  simp only [h, g, Bool.false_eq_true, if_false]
  exact ⟨rfl, rfl⟩
theorem tooth_some {s : Ks209.Abs} {t : Nat} {e : Here} (h : Ks209.wrong s t = false) (g : Ks209.here (s.ck.tooth t) = some e) :
    nextOf s (.tooth t) = { s with ck := s.ck.tooth t, coils := (Ks209.cylinders s.h e (Ks208.look s.h.advance s.load (Ks209.speed e)).toNat (Ks208.look s.h.fuel s.load (Ks209.speed e)).toNat 0 s.coils).1 } ∧
    ansOf s (.tooth t) = 1 :: evI (Ks209.cylinders s.h e (Ks208.look s.h.advance s.load (Ks209.speed e)).toNat (Ks208.look s.h.fuel s.load (Ks209.speed e)).toNat 0 s.coils).2 := by
  unfold nextOf ansOf Ks209.act Ks209.Abs.tooth
  simp only [h, g, Bool.false_eq_true, if_false]
  exact ⟨rfl, rfl⟩
theorem tick_wrong {s : Ks209.Abs} {t : Nat} (h : Ks209.wrong s t = true) : nextOf s (.tick t) = s ∧ ansOf s (.tick t) = [-22] := by
  unfold nextOf ansOf Ks209.act
  simp only [h, if_true]
  exact ⟨rfl, rfl⟩
theorem tick_no {s : Ks209.Abs} {t : Nat} (h : Ks209.wrong s t = false) (g : s.ck.t.any (fun p => decide (p + Ks207.STOP < t)) = false) : nextOf s (.tick t) = s ∧ ansOf s (.tick t) = [0] := by
  unfold nextOf ansOf Ks209.act
  simp only [h, g, Bool.false_eq_true, if_false]
  exact ⟨rfl, rfl⟩
theorem tick_yes {s : Ks209.Abs} {t : Nat} (h : Ks209.wrong s t = false) (g : s.ck.t.any (fun p => decide (p + Ks207.STOP < t)) = true) : nextOf s (.tick t) = { s with ck := Ks207.start, coils := Ks209.idled s.coils t } ∧ ansOf s (.tick t) = 1 :: evI (Ks209.softly s.coils t) := by
  unfold nextOf ansOf Ks209.act
  simp only [h, g, Bool.false_eq_true, if_false, if_true]
  exact ⟨rfl, rfl⟩
theorem load_no {s : Ks209.Abs} {x : Nat} (h : 3840 < x) : nextOf s (.load x) = s ∧ ansOf s (.load x) = [-22] := by
  unfold nextOf ansOf Ks209.act
  simp only [h, if_true]
  exact ⟨rfl, rfl⟩
theorem load_yes {s : Ks209.Abs} {x : Nat} (h : ¬ 3840 < x) : nextOf s (.load x) = { s with load := x } ∧ ansOf s (.load x) = [0] := by
  unfold nextOf ansOf Ks209.act
  simp only [h, if_false]
  exact ⟨rfl, rfl⟩
theorem start_no {s : Ks209.Abs} {h : How} (q : Ks209.okHow h = false) : nextOf s (.start h) = s ∧ ansOf s (.start h) = [-22] := by
  unfold nextOf ansOf Ks209.act
  simp only [q, Bool.false_eq_true, if_false]
  exact ⟨rfl, rfl⟩
theorem start_yes {s : Ks209.Abs} {h : How} (q : Ks209.okHow h = true) : nextOf s (.start h) = Ks209.start h ∧ ansOf s (.start h) = [0] := by
  unfold nextOf ansOf Ks209.act
  simp only [q, if_true]
  exact ⟨rfl, rfl⟩
theorem state_ans (s : Ks209.Abs) : ansOf s .state = 0 :: (s.coils.map (fun x => ((Ks209.coilOut x.st : Nat) : Int)) ++ [((if s.ck.sure then s.ck.at_.getD 255 else 255 : Nat) : Int), ((s.ck.turn.getD 2 : Nat) : Int)]) := by
  unfold ansOf Ks209.act Ks209Neutral.sa Ks209Neutral.ints
  simp only [List.map_append, List.map_map, List.flatMap_nil, List.append_nil, List.cons_append]
  rfl
/-- the tooth and the turn that state tells -/
theorem state_place {c : Ck} {a : Ks207.Abs} (h : RelCk c a) : (if a.sure then a.at_.getD 255 else 255 : Nat) = if c.ce = 2 then c.pl else 255 := by
  rcases h.ce with ⟨h1, h2, h3⟩ | ⟨h1, h2, h3⟩ | ⟨h1, h2, h3⟩
  · simp [h1, h3]
  · simp [h1, h3]
  · simp [h1, h2, h3]
theorem state_turn {c : Ck} {a : Ks207.Abs} (h : RelCk c a) : a.turn.getD 2 = c.tu.getD 2 ∧ (c.known = false → c.tu = none) := by
  refine ⟨by rw [h.tu], fun k => ?_⟩
  unfold Ck.known at k
  rcases h.ce with ⟨h1, h2, h3⟩ | ⟨h1, h2, h3⟩ | ⟨h1, h2, h3⟩
  · rw [h.tu]
    exact h.un h3
  · rw [h.tu]
    exact h.un h3
  · rw [decide_eq_true h1, Bool.true_and] at k
    cases q : c.tu with
    | none => rfl
    | some r =>
      rw [q] at k
      cases k
/-! ### the whole answer's length -/
theorem foldl_sum (l : List Nat) : ∀ a : Nat, l.foldl (· + ·) a = a + l.foldl (· + ·) 0 := by
  induction l with
  | nil => intro a; rfl
  | cons x r ih =>
    intro a
    rw [List.foldl_cons, List.foldl_cons, ih (a + x), ih (0 + x)]
    omega
theorem told_len : ∀ l : List (List Int), (PyFlat.told l).length = (l.map List.length).foldl (· + ·) 0 + l.length
  | [] => rfl
  | x :: r => by
    have ih := told_len r
    unfold PyFlat.told at ih ⊢
    rw [List.flatMap_cons, List.length_append, ih, List.map_cons, List.foldl_cons, foldl_sum _ (0 + x.length)]
    simp only [List.length_cons]
    omega
theorem played_runs : ∀ (cs : List Call) (s : Ks209Neutral.S), PyFlat.played Ks209Neutral.step s cs = Ks209Neutral.runs s cs
  | [], s => rfl
  | c :: r, s => by
    rw [PyFlat.played, Ks209Neutral.runs, played_runs r]
theorem runs_len : ∀ (cs : List Call) (s : Ks209Neutral.S), (Ks209Neutral.runs s cs).length = cs.length
  | [], s => rfl
  | c :: r, s => by
    rw [Ks209Neutral.runs]
    simp only [List.length_cons, runs_len r]
theorem asked_len {ns : List Int} (h : PyKs209.answers_asked ns = true) : ∃ cs, PyFlat.calls PyKs209.shape ns.length ns = some cs ∧ Ks209Neutral.askedFrom false Ks209Neutral.start cs = true ∧ (PyFlat.told (PyFlat.played Ks209Neutral.step Ks209Neutral.start cs)).length ≤ 1005000 := by
  unfold PyKs209.answers_asked PyKs209.calls at h
  cases e : PyFlat.calls PyKs209.shape ns.length ns with
  | none => rw [e] at h; simp at h
  | some cs =>
    rw [e] at h
    simp only [map_whole] at h
    refine ⟨cs, rfl, ?_⟩
    unfold Ks209Neutral.asked Ks209Neutral.orderly at h
    simp only [Bool.and_eq_true] at h
    refine ⟨h.2.1.2, ?_⟩
    rw [told_len, played_runs, runs_len]
    have a : cs.length ≤ 5000 := of_decide_eq_true h.2.1.1.2
    have b : ((Ks209Neutral.f cs).map List.length).foldl (· + ·) 0 < 1000000 := of_decide_eq_true h.2.2
    unfold Ks209Neutral.f at b
    omega
end Et

set_option Elab.async false
set_option linter.all false
set_option maxRecDepth 100000
set_option maxHeartbeats 4000000
/-! ### 2. The text by places; readings in short -/
namespace Et
open PySem PySem.Spec PyProof.Rows L2
open PySem.W (Codec)
def tp (i : Nat) : Stmt := PySem.Challenge.pw_enginetimes_s01_answers.main.body.getD i (.Pass ⟨0, 0, 0, 0⟩)
abbrev s_Crank___init__ : Stmt := inClass (tp 6) 0
theorem sc_Crank___init__ : FnScope ["self"] ["self"] (defScope s_Crank___init__) := ⟨rfl, rfl, rfl, by decide +kernel, rfl, by decide +kernel, by decide +kernel⟩
abbrev s_Crank_comes_behind : Stmt := inClass (tp 6) 1
theorem sc_Crank_comes_behind : FnScope ["self", "t"] ["self", "t"] (defScope s_Crank_comes_behind) := ⟨rfl, rfl, rfl, by decide +kernel, rfl, by decide +kernel, by decide +kernel⟩
abbrev s_Crank_pass_tooth : Stmt := inClass (tp 6) 2
theorem sc_Crank_pass_tooth : FnScope ["self", "t", "interval", "gap"] ["self", "t"] (defScope s_Crank_pass_tooth) := ⟨rfl, rfl, rfl, by decide +kernel, rfl, by decide +kernel, by decide +kernel⟩
abbrev s_Crank_stands_still : Stmt := inClass (tp 6) 3
theorem sc_Crank_stands_still : FnScope ["self", "t"] ["self", "t"] (defScope s_Crank_stands_still) := ⟨rfl, rfl, rfl, by decide +kernel, rfl, by decide +kernel, by decide +kernel⟩
abbrev s_Crank_interval_at : Stmt := inClass (tp 6) 4
theorem sc_Crank_interval_at : FnScope ["self", "t"] ["self", "t"] (defScope s_Crank_interval_at) := ⟨rfl, rfl, rfl, by decide +kernel, rfl, by decide +kernel, by decide +kernel⟩
abbrev s_Crank_is_gap : Stmt := inClass (tp 6) 5
theorem sc_Crank_is_gap : FnScope ["self", "interval"] ["self", "interval"] (defScope s_Crank_is_gap) := ⟨rfl, rfl, rfl, by decide +kernel, rfl, by decide +kernel, by decide +kernel⟩
abbrev s_Crank_move : Stmt := inClass (tp 6) 6
theorem sc_Crank_move : FnScope ["self", "gap", "at_last"] ["self", "gap"] (defScope s_Crank_move) := ⟨rfl, rfl, rfl, by decide +kernel, rfl, by decide +kernel, by decide +kernel⟩
abbrev s_Crank_settle_turn : Stmt := inClass (tp 6) 7
theorem sc_Crank_settle_turn : FnScope ["self"] ["self"] (defScope s_Crank_settle_turn) := ⟨rfl, rfl, rfl, by decide +kernel, rfl, by decide +kernel, by decide +kernel⟩
abbrev s_Crank_turn_begun : Stmt := inClass (tp 6) 8
theorem sc_Crank_turn_begun : FnScope ["self"] ["self"] (defScope s_Crank_turn_begun) := ⟨rfl, rfl, rfl, by decide +kernel, rfl, by decide +kernel, by decide +kernel⟩
abbrev s_Crank_tell_cam : Stmt := inClass (tp 6) 9
theorem sc_Crank_tell_cam : FnScope ["self"] ["self"] (defScope s_Crank_tell_cam) := ⟨rfl, rfl, rfl, by decide +kernel, rfl, by decide +kernel, by decide +kernel⟩
abbrev s_Crank_is_sure : Stmt := inClass (tp 6) 10
theorem sc_Crank_is_sure : FnScope ["self"] ["self"] (defScope s_Crank_is_sure) := ⟨rfl, rfl, rfl, by decide +kernel, rfl, by decide +kernel, by decide +kernel⟩
abbrev s_Crank_is_known : Stmt := inClass (tp 6) 11
theorem sc_Crank_is_known : FnScope ["self"] ["self"] (defScope s_Crank_is_known) := ⟨rfl, rfl, rfl, by decide +kernel, rfl, by decide +kernel, by decide +kernel⟩
abbrev s_Cylinder___init__ : Stmt := inClass (tp 20) 0
theorem sc_Cylinder___init__ : FnScope ["self", "number"] ["self", "number"] (defScope s_Cylinder___init__) := ⟨rfl, rfl, rfl, by decide +kernel, rfl, by decide +kernel, by decide +kernel⟩
abbrev s_Cylinder_give_up : Stmt := inClass (tp 20) 1
theorem sc_Cylinder_give_up : FnScope ["self", "t"] ["self", "t"] (defScope s_Cylinder_give_up) := ⟨rfl, rfl, rfl, by decide +kernel, rfl, by decide +kernel, by decide +kernel⟩
abbrev s_Cylinder_follow : Stmt := inClass (tp 20) 2
theorem sc_Cylinder_follow : FnScope ["self", "moment", "timing", "ahead", "told"] ["self", "moment", "timing"] (defScope s_Cylinder_follow) := ⟨rfl, rfl, rfl, by decide +kernel, rfl, by decide +kernel, by decide +kernel⟩
abbrev s_Cylinder_rest : Stmt := inClass (tp 20) 3
theorem sc_Cylinder_rest : FnScope ["self", "ahead"] ["self", "ahead"] (defScope s_Cylinder_rest) := ⟨rfl, rfl, rfl, by decide +kernel, rfl, by decide +kernel, by decide +kernel⟩
abbrev s_Cylinder_go_on : Stmt := inClass (tp 20) 4
theorem sc_Cylinder_go_on : FnScope ["self", "moment", "ahead", "timing", "on_time"] ["self", "moment", "ahead", "timing"] (defScope s_Cylinder_go_on) := ⟨rfl, rfl, rfl, by decide +kernel, rfl, by decide +kernel, by decide +kernel⟩
abbrev s_Cylinder_spark : Stmt := inClass (tp 20) 5
theorem sc_Cylinder_spark : FnScope ["self", "moment", "ahead", "timing", "gone_by", "spark_time"] ["self", "moment", "ahead", "timing"] (defScope s_Cylinder_spark) := ⟨rfl, rfl, rfl, by decide +kernel, rfl, by decide +kernel, by decide +kernel⟩
abbrev s_Cylinder_feed : Stmt := inClass (tp 20) 6
theorem sc_Cylinder_feed : FnScope ["self", "moment", "timing", "ahead", "opens"] ["self", "moment", "timing"] (defScope s_Cylinder_feed) := ⟨rfl, rfl, rfl, by decide +kernel, rfl, by decide +kernel, by decide +kernel⟩
abbrev s_Moment___init__ : Stmt := inClass (tp 27) 0
theorem sc_Moment___init__ : FnScope ["self", "crank"] ["self", "crank"] (defScope s_Moment___init__) := ⟨rfl, rfl, rfl, by decide +kernel, rfl, by decide +kernel, by decide +kernel⟩
abbrev s_Moment_ahead : Stmt := inClass (tp 27) 1
theorem sc_Moment_ahead : FnScope ["self", "position"] ["self", "position"] (defScope s_Moment_ahead) := ⟨rfl, rfl, rfl, by decide +kernel, rfl, by decide +kernel, by decide +kernel⟩
abbrev s_Moment_time_of : Stmt := inClass (tp 27) 2
theorem sc_Moment_time_of : FnScope ["self", "distance"] ["self", "distance"] (defScope s_Moment_time_of) := ⟨rfl, rfl, rfl, by decide +kernel, rfl, by decide +kernel, by decide +kernel⟩
abbrev s_Moment_speed : Stmt := inClass (tp 27) 3
theorem sc_Moment_speed : FnScope ["self"] ["self"] (defScope s_Moment_speed) := ⟨rfl, rfl, rfl, by decide +kernel, rfl, by decide +kernel, by decide +kernel⟩
abbrev s_look_between : Stmt := tp 32
theorem sc_look_between : FnScope ["table", "x", "y", "column", "line", "next_column", "next_line", "upper", "lower"] ["table", "x", "y"] (defScope s_look_between) := ⟨rfl, rfl, rfl, by decide +kernel, rfl, by decide +kernel, by decide +kernel⟩
abbrev s_share : Stmt := tp 33
theorem sc_share : FnScope ["here", "there", "way"] ["here", "there", "way"] (defScope s_share) := ⟨rfl, rfl, rfl, by decide +kernel, rfl, by decide +kernel, by decide +kernel⟩
abbrev s_Timing___init__ : Stmt := inClass (tp 50) 0
theorem sc_Timing___init__ : FnScope ["self", "dwell", "most", "advance", "fuel"] ["self", "dwell", "most", "advance", "fuel"] (defScope s_Timing___init__) := ⟨rfl, rfl, rfl, by decide +kernel, rfl, by decide +kernel, by decide +kernel⟩
abbrev s_Engine___init__ : Stmt := inClass (tp 51) 0
theorem sc_Engine___init__ : FnScope ["self"] ["self"] (defScope s_Engine___init__) := ⟨rfl, rfl, rfl, by decide +kernel, rfl, by decide +kernel, by decide +kernel⟩
abbrev s_Engine_begin : Stmt := inClass (tp 51) 1
theorem sc_Engine_begin : FnScope ["self", "dwell", "most", "advances", "fuels", "number"] ["self", "dwell", "most", "advances", "fuels"] (defScope s_Engine_begin) := ⟨rfl, rfl, rfl, by decide +kernel, rfl, by decide +kernel, by decide +kernel⟩
abbrev s_Engine_start : Stmt := inClass (tp 51) 2
theorem sc_Engine_start : FnScope ["self", "dwell", "most", "advances", "fuels"] ["self", "dwell", "most", "advances", "fuels"] (defScope s_Engine_start) := ⟨rfl, rfl, rfl, by decide +kernel, rfl, by decide +kernel, by decide +kernel⟩
abbrev s_Engine_may_come : Stmt := inClass (tp 51) 3
theorem sc_Engine_may_come : FnScope ["self", "t"] ["self", "t"] (defScope s_Engine_may_come) := ⟨rfl, rfl, rfl, by decide +kernel, rfl, by decide +kernel, by decide +kernel⟩
abbrev s_Engine_tooth : Stmt := inClass (tp 51) 4
theorem sc_Engine_tooth : FnScope ["self", "t"] ["self", "t"] (defScope s_Engine_tooth) := ⟨rfl, rfl, rfl, by decide +kernel, rfl, by decide +kernel, by decide +kernel⟩
abbrev s_Engine_give_up_all : Stmt := inClass (tp 51) 5
theorem sc_Engine_give_up_all : FnScope ["self", "t", "told", "cylinder"] ["self", "t"] (defScope s_Engine_give_up_all) := ⟨rfl, rfl, rfl, by decide +kernel, rfl, by decide +kernel, by decide +kernel⟩
abbrev s_Engine_follow_all : Stmt := inClass (tp 51) 6
theorem sc_Engine_follow_all : FnScope ["self", "moment", "timing", "told", "cylinder"] ["self", "moment"] (defScope s_Engine_follow_all) := ⟨rfl, rfl, rfl, by decide +kernel, rfl, by decide +kernel, by decide +kernel⟩
abbrev s_Engine_timing_at : Stmt := inClass (tp 51) 7
theorem sc_Engine_timing_at : FnScope ["self", "speed", "advance", "fuel"] ["self", "speed"] (defScope s_Engine_timing_at) := ⟨rfl, rfl, rfl, by decide +kernel, rfl, by decide +kernel, by decide +kernel⟩
abbrev s_Engine_cam : Stmt := inClass (tp 51) 8
theorem sc_Engine_cam : FnScope ["self"] ["self"] (defScope s_Engine_cam) := ⟨rfl, rfl, rfl, by decide +kernel, rfl, by decide +kernel, by decide +kernel⟩
abbrev s_Engine_load : Stmt := inClass (tp 51) 9
theorem sc_Engine_load : FnScope ["self", "load"] ["self", "load"] (defScope s_Engine_load) := ⟨rfl, rfl, rfl, by decide +kernel, rfl, by decide +kernel, by decide +kernel⟩
abbrev s_Engine_tick : Stmt := inClass (tp 51) 10
theorem sc_Engine_tick : FnScope ["self", "t"] ["self", "t"] (defScope s_Engine_tick) := ⟨rfl, rfl, rfl, by decide +kernel, rfl, by decide +kernel, by decide +kernel⟩
abbrev s_Engine_state : Stmt := inClass (tp 51) 11
theorem sc_Engine_state : FnScope ["self", "phases", "cylinder", "place", "turn"] ["self"] (defScope s_Engine_state) := ⟨rfl, rfl, rfl, by decide +kernel, rfl, by decide +kernel, by decide +kernel⟩
abbrev s_answers : Stmt := tp 52
theorem sc_answers : FnScope ["calls", "engine", "answered", "place", "behind", "answer"] ["calls"] (defScope s_answers) := ⟨rfl, rfl, rfl, by decide +kernel, rfl, by decide +kernel, by decide +kernel⟩
abbrev s_call_length : Stmt := tp 53
theorem sc_call_length : FnScope ["calls", "place", "fuel_count"] ["calls", "place"] (defScope s_call_length) := ⟨rfl, rfl, rfl, by decide +kernel, rfl, by decide +kernel, by decide +kernel⟩
abbrev s_answer_call : Stmt := tp 54
theorem sc_answer_call : FnScope ["engine", "call", "advance_end"] ["engine", "call"] (defScope s_answer_call) := ⟨rfl, rfl, rfl, by decide +kernel, rfl, by decide +kernel, by decide +kernel⟩
/-- a def of a class: the function, how its arguments bind, that it is found -/
structure MethT (K : PySem.W.Frag) (C : Addr) (m qual : Str) (st : Stmt) (ps : List Str) (f : Addr) (fd : FuncData) : Prop where
  fn : Fun K m qual st f fd
  bd : Binds K fd ps []
  mt : Meth K C m f
/-- a whole number of the module's top -/
def GInt (mg : Str → Option Value) (x : Str) (n : Int) : Prop := ∃ t, mg x = some (.int n t)
structure Adr where
  aCrank : Addr
  aCylinder : Addr
  aMoment : Addr
  aTiming : Addr
  aEngine : Addr
  f_Crank___init__ : Addr
  d_Crank___init__ : FuncData
  f_Crank_comes_behind : Addr
  d_Crank_comes_behind : FuncData
  f_Crank_pass_tooth : Addr
  d_Crank_pass_tooth : FuncData
  f_Crank_stands_still : Addr
  d_Crank_stands_still : FuncData
  f_Crank_interval_at : Addr
  d_Crank_interval_at : FuncData
  f_Crank_is_gap : Addr
  d_Crank_is_gap : FuncData
  f_Crank_move : Addr
  d_Crank_move : FuncData
  f_Crank_settle_turn : Addr
  d_Crank_settle_turn : FuncData
  f_Crank_turn_begun : Addr
  d_Crank_turn_begun : FuncData
  f_Crank_tell_cam : Addr
  d_Crank_tell_cam : FuncData
  f_Crank_is_sure : Addr
  d_Crank_is_sure : FuncData
  f_Crank_is_known : Addr
  d_Crank_is_known : FuncData
  f_Cylinder___init__ : Addr
  d_Cylinder___init__ : FuncData
  f_Cylinder_give_up : Addr
  d_Cylinder_give_up : FuncData
  f_Cylinder_follow : Addr
  d_Cylinder_follow : FuncData
  f_Cylinder_rest : Addr
  d_Cylinder_rest : FuncData
  f_Cylinder_go_on : Addr
  d_Cylinder_go_on : FuncData
  f_Cylinder_spark : Addr
  d_Cylinder_spark : FuncData
  f_Cylinder_feed : Addr
  d_Cylinder_feed : FuncData
  f_Moment___init__ : Addr
  d_Moment___init__ : FuncData
  f_Moment_ahead : Addr
  d_Moment_ahead : FuncData
  f_Moment_time_of : Addr
  d_Moment_time_of : FuncData
  f_Moment_speed : Addr
  d_Moment_speed : FuncData
  f_look_between : Addr
  d_look_between : FuncData
  f_share : Addr
  d_share : FuncData
  f_Timing___init__ : Addr
  d_Timing___init__ : FuncData
  f_Engine___init__ : Addr
  d_Engine___init__ : FuncData
  f_Engine_begin : Addr
  d_Engine_begin : FuncData
  f_Engine_start : Addr
  d_Engine_start : FuncData
  f_Engine_may_come : Addr
  d_Engine_may_come : FuncData
  f_Engine_tooth : Addr
  d_Engine_tooth : FuncData
  f_Engine_give_up_all : Addr
  d_Engine_give_up_all : FuncData
  f_Engine_follow_all : Addr
  d_Engine_follow_all : FuncData
  f_Engine_timing_at : Addr
  d_Engine_timing_at : FuncData
  f_Engine_cam : Addr
  d_Engine_cam : FuncData
  f_Engine_load : Addr
  d_Engine_load : FuncData
  f_Engine_tick : Addr
  d_Engine_tick : FuncData
  f_Engine_state : Addr
  d_Engine_state : FuncData
  f_answers : Addr
  d_answers : FuncData
  f_call_length : Addr
  d_call_length : FuncData
  f_answer_call : Addr
  d_answer_call : FuncData
structure Txt (K : PySem.W.Frag) (mg : Str → Option Value) (A : Adr) : Prop where
  g_LONGEST_INTERVAL : GInt mg "LONGEST_INTERVAL" (1048576)
  g_LAST_TOOTH : GInt mg "LAST_TOOTH" (34)
  g_UNKNOWN : GInt mg "UNKNOWN" (0)
  g_PERHAPS : GInt mg "PERHAPS" (1)
  g_SURELY : GInt mg "SURELY" (2)
  g_COIL_ON : GInt mg "COIL_ON" (0)
  g_SPARK : GInt mg "SPARK" (1)
  g_SOFT_OFF : GInt mg "SOFT_OFF" (2)
  g_VALVE_OPENS : GInt mg "VALVE_OPENS" (3)
  g_VALVE_CLOSES : GInt mg "VALVE_CLOSES" (4)
  g_IDLE : GInt mg "IDLE" (0)
  g_ON : GInt mg "ON" (1)
  g_DONE : GInt mg "DONE" (2)
  g_QUARTER : GInt mg "QUARTER" (1152)
  g_HALF : GInt mg "HALF" (2304)
  g_SPARK_BASE : GInt mg "SPARK_BASE" (640)
  g_VALVE_BASE : GInt mg "VALVE_BASE" (2944)
  g_PLACES : GInt mg "PLACES" (36)
  g_PLACE : GInt mg "PLACE" (64)
  g_CYCLE : GInt mg "CYCLE" (4608)
  g_SPEED_OF_ONE : GInt mg "SPEED_OF_ONE" (1048576)
  g_TOP_SPEED : GInt mg "TOP_SPEED" (3840)
  g_SIDE : GInt mg "SIDE" (16)
  g_STEP : GInt mg "STEP" (256)
  g_LAST : GInt mg "LAST" (15)
  g_REFUSED : GInt mg "REFUSED" (-22)
  g_CYLINDERS : GInt mg "CYLINDERS" (4)
  g_LONGEST_MOST : GInt mg "LONGEST_MOST" (65536)
  g_MOST_ADVANCE : GInt mg "MOST_ADVANCE" (1024)
  g_MOST_LOAD : GInt mg "MOST_LOAD" (3840)
  g_TIMES_END : GInt mg "TIMES_END" (4611686018427387904)
  g_TOOTH_NOT_KNOWN : GInt mg "TOOTH_NOT_KNOWN" (255)
  g_TURN_NOT_KNOWN : GInt mg "TURN_NOT_KNOWN" (2)
  g_START : GInt mg "START" (0)
  g_TOOTH : GInt mg "TOOTH" (1)
  g_CAM : GInt mg "CAM" (2)
  g_LOAD : GInt mg "LOAD" (3)
  g_TICK : GInt mg "TICK" (4)
  g_STATE : GInt mg "STATE" (5)
  n_max : mg "max" = none
  n_min : mg "min" = none
  n_len : mg "len" = none
  n_range : mg "range" = none
  cls_Crank : Cls K A.aCrank
  mk_Crank : Mk K A.aCrank A.f_Crank___init__
  c_Crank : mg "Crank" = some (.ref A.aCrank)
  n_Crank_last_time : NoAttr K A.aCrank "last_time"
  n_Crank_interval : NoAttr K A.aCrank "interval"
  n_Crank_certainty : NoAttr K A.aCrank "certainty"
  n_Crank_place : NoAttr K A.aCrank "place"
  n_Crank_turn : NoAttr K A.aCrank "turn"
  n_Crank_cam_told : NoAttr K A.aCrank "cam_told"
  cls_Cylinder : Cls K A.aCylinder
  mk_Cylinder : Mk K A.aCylinder A.f_Cylinder___init__
  c_Cylinder : mg "Cylinder" = some (.ref A.aCylinder)
  n_Cylinder_number : NoAttr K A.aCylinder "number"
  n_Cylinder_phase : NoAttr K A.aCylinder "phase"
  n_Cylinder_went_on : NoAttr K A.aCylinder "went_on"
  n_Cylinder_off : NoAttr K A.aCylinder "off"
  cls_Moment : Cls K A.aMoment
  mk_Moment : Mk K A.aMoment A.f_Moment___init__
  c_Moment : mg "Moment" = some (.ref A.aMoment)
  n_Moment_now : NoAttr K A.aMoment "now"
  n_Moment_position : NoAttr K A.aMoment "position"
  n_Moment_pace : NoAttr K A.aMoment "pace"
  n_Moment_span : NoAttr K A.aMoment "span"
  cls_Timing : Cls K A.aTiming
  mk_Timing : Mk K A.aTiming A.f_Timing___init__
  c_Timing : mg "Timing" = some (.ref A.aTiming)
  n_Timing_dwell : NoAttr K A.aTiming "dwell"
  n_Timing_most : NoAttr K A.aTiming "most"
  n_Timing_advance : NoAttr K A.aTiming "advance"
  n_Timing_fuel : NoAttr K A.aTiming "fuel"
  cls_Engine : Cls K A.aEngine
  mk_Engine : Mk K A.aEngine A.f_Engine___init__
  c_Engine : mg "Engine" = some (.ref A.aEngine)
  n_Engine_dwell : NoAttr K A.aEngine "dwell"
  n_Engine_most : NoAttr K A.aEngine "most"
  n_Engine_advances : NoAttr K A.aEngine "advances"
  n_Engine_fuels : NoAttr K A.aEngine "fuels"
  n_Engine_load_now : NoAttr K A.aEngine "load_now"
  n_Engine_crank : NoAttr K A.aEngine "crank"
  n_Engine_cylinders : NoAttr K A.aEngine "cylinders"
  m_Crank___init__ : MethT K A.aCrank "__init__" "Crank.__init__" s_Crank___init__ ["self"] A.f_Crank___init__ A.d_Crank___init__
  m_Crank_comes_behind : MethT K A.aCrank "comes_behind" "Crank.comes_behind" s_Crank_comes_behind ["self", "t"] A.f_Crank_comes_behind A.d_Crank_comes_behind
  m_Crank_pass_tooth : MethT K A.aCrank "pass_tooth" "Crank.pass_tooth" s_Crank_pass_tooth ["self", "t"] A.f_Crank_pass_tooth A.d_Crank_pass_tooth
  m_Crank_stands_still : MethT K A.aCrank "stands_still" "Crank.stands_still" s_Crank_stands_still ["self", "t"] A.f_Crank_stands_still A.d_Crank_stands_still
  m_Crank_interval_at : MethT K A.aCrank "interval_at" "Crank.interval_at" s_Crank_interval_at ["self", "t"] A.f_Crank_interval_at A.d_Crank_interval_at
  m_Crank_is_gap : MethT K A.aCrank "is_gap" "Crank.is_gap" s_Crank_is_gap ["self", "interval"] A.f_Crank_is_gap A.d_Crank_is_gap
  m_Crank_move : MethT K A.aCrank "move" "Crank.move" s_Crank_move ["self", "gap"] A.f_Crank_move A.d_Crank_move
  m_Crank_settle_turn : MethT K A.aCrank "settle_turn" "Crank.settle_turn" s_Crank_settle_turn ["self"] A.f_Crank_settle_turn A.d_Crank_settle_turn
  m_Crank_turn_begun : MethT K A.aCrank "turn_begun" "Crank.turn_begun" s_Crank_turn_begun ["self"] A.f_Crank_turn_begun A.d_Crank_turn_begun
  m_Crank_tell_cam : MethT K A.aCrank "tell_cam" "Crank.tell_cam" s_Crank_tell_cam ["self"] A.f_Crank_tell_cam A.d_Crank_tell_cam
  m_Crank_is_sure : MethT K A.aCrank "is_sure" "Crank.is_sure" s_Crank_is_sure ["self"] A.f_Crank_is_sure A.d_Crank_is_sure
  m_Crank_is_known : MethT K A.aCrank "is_known" "Crank.is_known" s_Crank_is_known ["self"] A.f_Crank_is_known A.d_Crank_is_known
  m_Cylinder___init__ : MethT K A.aCylinder "__init__" "Cylinder.__init__" s_Cylinder___init__ ["self", "number"] A.f_Cylinder___init__ A.d_Cylinder___init__
  m_Cylinder_give_up : MethT K A.aCylinder "give_up" "Cylinder.give_up" s_Cylinder_give_up ["self", "t"] A.f_Cylinder_give_up A.d_Cylinder_give_up
  m_Cylinder_follow : MethT K A.aCylinder "follow" "Cylinder.follow" s_Cylinder_follow ["self", "moment", "timing"] A.f_Cylinder_follow A.d_Cylinder_follow
  m_Cylinder_rest : MethT K A.aCylinder "rest" "Cylinder.rest" s_Cylinder_rest ["self", "ahead"] A.f_Cylinder_rest A.d_Cylinder_rest
  m_Cylinder_go_on : MethT K A.aCylinder "go_on" "Cylinder.go_on" s_Cylinder_go_on ["self", "moment", "ahead", "timing"] A.f_Cylinder_go_on A.d_Cylinder_go_on
  m_Cylinder_spark : MethT K A.aCylinder "spark" "Cylinder.spark" s_Cylinder_spark ["self", "moment", "ahead", "timing"] A.f_Cylinder_spark A.d_Cylinder_spark
  m_Cylinder_feed : MethT K A.aCylinder "feed" "Cylinder.feed" s_Cylinder_feed ["self", "moment", "timing"] A.f_Cylinder_feed A.d_Cylinder_feed
  m_Moment___init__ : MethT K A.aMoment "__init__" "Moment.__init__" s_Moment___init__ ["self", "crank"] A.f_Moment___init__ A.d_Moment___init__
  m_Moment_ahead : MethT K A.aMoment "ahead" "Moment.ahead" s_Moment_ahead ["self", "position"] A.f_Moment_ahead A.d_Moment_ahead
  m_Moment_time_of : MethT K A.aMoment "time_of" "Moment.time_of" s_Moment_time_of ["self", "distance"] A.f_Moment_time_of A.d_Moment_time_of
  m_Moment_speed : MethT K A.aMoment "speed" "Moment.speed" s_Moment_speed ["self"] A.f_Moment_speed A.d_Moment_speed
  F_look_between : Fun K "look_between" "look_between" s_look_between A.f_look_between A.d_look_between
  b_look_between : Binds K A.d_look_between ["table", "x", "y"] []
  f_look_between : mg "look_between" = some (.ref A.f_look_between)
  k_look_between : PySem.W.keepIn K (.ref A.f_look_between) = true
  F_share : Fun K "share" "share" s_share A.f_share A.d_share
  b_share : Binds K A.d_share ["here", "there", "way"] []
  f_share : mg "share" = some (.ref A.f_share)
  k_share : PySem.W.keepIn K (.ref A.f_share) = true
  m_Timing___init__ : MethT K A.aTiming "__init__" "Timing.__init__" s_Timing___init__ ["self", "dwell", "most", "advance", "fuel"] A.f_Timing___init__ A.d_Timing___init__
  m_Engine___init__ : MethT K A.aEngine "__init__" "Engine.__init__" s_Engine___init__ ["self"] A.f_Engine___init__ A.d_Engine___init__
  m_Engine_begin : MethT K A.aEngine "begin" "Engine.begin" s_Engine_begin ["self", "dwell", "most", "advances", "fuels"] A.f_Engine_begin A.d_Engine_begin
  m_Engine_start : MethT K A.aEngine "start" "Engine.start" s_Engine_start ["self", "dwell", "most", "advances", "fuels"] A.f_Engine_start A.d_Engine_start
  m_Engine_may_come : MethT K A.aEngine "may_come" "Engine.may_come" s_Engine_may_come ["self", "t"] A.f_Engine_may_come A.d_Engine_may_come
  m_Engine_tooth : MethT K A.aEngine "tooth" "Engine.tooth" s_Engine_tooth ["self", "t"] A.f_Engine_tooth A.d_Engine_tooth
  m_Engine_give_up_all : MethT K A.aEngine "give_up_all" "Engine.give_up_all" s_Engine_give_up_all ["self", "t"] A.f_Engine_give_up_all A.d_Engine_give_up_all
  m_Engine_follow_all : MethT K A.aEngine "follow_all" "Engine.follow_all" s_Engine_follow_all ["self", "moment"] A.f_Engine_follow_all A.d_Engine_follow_all
  m_Engine_timing_at : MethT K A.aEngine "timing_at" "Engine.timing_at" s_Engine_timing_at ["self", "speed"] A.f_Engine_timing_at A.d_Engine_timing_at
  m_Engine_cam : MethT K A.aEngine "cam" "Engine.cam" s_Engine_cam ["self"] A.f_Engine_cam A.d_Engine_cam
  m_Engine_load : MethT K A.aEngine "load" "Engine.load" s_Engine_load ["self", "load"] A.f_Engine_load A.d_Engine_load
  m_Engine_tick : MethT K A.aEngine "tick" "Engine.tick" s_Engine_tick ["self", "t"] A.f_Engine_tick A.d_Engine_tick
  m_Engine_state : MethT K A.aEngine "state" "Engine.state" s_Engine_state ["self"] A.f_Engine_state A.d_Engine_state
  F_answers : Fun K "answers" "answers" s_answers A.f_answers A.d_answers
  b_answers : Binds K A.d_answers ["calls"] []
  f_answers : mg "answers" = some (.ref A.f_answers)
  k_answers : PySem.W.keepIn K (.ref A.f_answers) = true
  F_call_length : Fun K "call_length" "call_length" s_call_length A.f_call_length A.d_call_length
  b_call_length : Binds K A.d_call_length ["calls", "place"] []
  f_call_length : mg "call_length" = some (.ref A.f_call_length)
  k_call_length : PySem.W.keepIn K (.ref A.f_call_length) = true
  F_answer_call : Fun K "answer_call" "answer_call" s_answer_call A.f_answer_call A.d_answer_call
  b_answer_call : Binds K A.d_answer_call ["engine", "call"] []
  f_answer_call : mg "answer_call" = some (.ref A.f_answer_call)
  k_answer_call : PySem.W.keepIn K (.ref A.f_answer_call) = true
section
variable {X : Cx} {x f m : Str} {e o value : Expr} {pos pos' tpos apos : Pos} {ta tv : TE} {K : PySem.W.Frag}
theorem pgi {n : Int} (h : GInt X.mg x n) (hg : Gl X x := by rfl) (hd : (x == ("__debug__" : Str)) = false := by decide) : PE X (.Name x pos) (tC (.int n)) := by
  obtain ⟨t, h⟩ := h
  exact pe_glob hg h ⟨t, rfl⟩ hd
/-- a field of an object -/
def FldIs (K : PySem.W.Frag) (H : Hp) (f : Str) (x v : V) : Prop := ∃ a C dx fs, x = .ref a ∧ H a = some (.ins C dx fs) ∧ Cls K C ∧ NoAttr K C f ∧ fs.lookup f = some v
theorem rd_get {σ : L2.St} {H : Hp} {Q : VK} (h : ta σ H fun x H1 => ∃ v, FldIs K H1 f x v ∧ Q v H1) : tFld K ta f σ H Q := by
  unfold tFld
  have e : (fun (x : V) (H1 : Hp) => ∃ v, FldIs K H1 f x v ∧ Q v H1) = (fun x H1 => ∃ a C dx fs v, x = .ref a ∧ H1 a = some (.ins C dx fs) ∧ Cls K C ∧ NoAttr K C f ∧ fs.lookup f = some v ∧ Q v H1) := by
    funext x H1
    refine propext ⟨?_, ?_⟩
    · rintro ⟨v, ⟨a, C, dx, fs, h1, h2, h3, h4, h5⟩, q⟩
      exact ⟨a, C, dx, fs, v, h1, h2, h3, h4, h5, q⟩
    · rintro ⟨a, C, dx, fs, v, h1, h2, h3, h4, h5, q⟩
      exact ⟨v, ⟨a, C, dx, fs, h1, h2, h3, h4, h5⟩, q⟩
  rw [← e]
  exact h
/-- a field of an object is given a value -/
def StIs (K : PySem.W.Frag) (H : Hp) (f : Str) (x y : V) (H' : Hp) : Prop := ∃ a C dx fs, x = .ref a ∧ H a = some (.ins C dx fs) ∧ Cls K C ∧ NoAttr K C f ∧ fs.length < 1000 ∧ H' = upd H a (.ins C dx (putF f y fs))
theorem rd_put {σ : L2.St} {H : Hp} {D : Ends} (h : tv σ H fun y H1 => ta σ H1 fun x H2 => ∃ H3, StIs K H2 f x y H3 ∧ D.nx σ H3) : sFld K ta tv f D σ H := by
  unfold sFld
  have e : (fun (y : V) (H1 : Hp) => ta σ H1 fun x H2 => ∃ H3, StIs K H2 f x y H3 ∧ D.nx σ H3) = (fun y H1 => ta σ H1 fun x H2 => ∃ a C dx fs, x = .ref a ∧ H2 a = some (.ins C dx fs) ∧ Cls K C ∧ NoAttr K C f ∧ fs.length < 1000 ∧ D.nx σ (upd H2 a (.ins C dx (putF f y fs)))) := by
    funext y H1
    congr 1
    funext x H2
    refine propext ⟨?_, ?_⟩
    · rintro ⟨H3, ⟨a, C, dx, fs, h1, h2, h3, h4, h5, rfl⟩, q⟩
      exact ⟨a, C, dx, fs, h1, h2, h3, h4, h5, q⟩
    · rintro ⟨a, C, dx, fs, h1, h2, h3, h4, h5, q⟩
      exact ⟨_, ⟨a, C, dx, fs, h1, h2, h3, h4, h5, rfl⟩, q⟩
  rw [← e]
  exact h
/-- an object whose own fields don't hide a method -/
def RcIs (C : Addr) (H : Hp) (m : Str) (x : V) : Prop := ∃ a dx fs, x = .ref a ∧ H a = some (.ins C dx fs) ∧ fs.lookup m = none
theorem rd_met {C : Addr} {sp : Sp} {t : TA} {σ : L2.St} {H : Hp} {Q : VK} (h : ta σ H fun x H1 => RcIs C H1 m x ∧ t σ H1 fun vs H2 => sp (x :: vs) H2 Q E0) : tMeth C m sp [] E0 ta t σ H Q := by
  unfold tMeth
  have e : (fun (x : V) (H1 : Hp) => RcIs C H1 m x ∧ t σ H1 fun vs H2 => sp (x :: vs) H2 Q E0) = (fun x H1 => ∃ a dx fs, x = .ref a ∧ H1 a = some (.ins C dx fs) ∧ fs.lookup m = none ∧ t σ H1 fun vs H2 => sp (x :: (vs ++ [])) H2 Q E0) := by
    funext x H1
    simp only [List.append_nil]
    refine propext ⟨?_, ?_⟩
    · rintro ⟨⟨a, dx, fs, h1, h2, h3⟩, q⟩
      exact ⟨a, dx, fs, h1, h2, h3, q⟩
    · rintro ⟨a, dx, fs, h1, h2, h3, q⟩
      exact ⟨⟨a, dx, fs, h1, h2, h3⟩, q⟩
  rw [← e]
  exact h
theorem rd_cal {sp : Sp} {t : TA} {σ : L2.St} {H : Hp} {Q : VK} (h : t σ H fun vs H1 => sp vs H1 Q E0) : tCall sp [] E0 t σ H Q := by
  unfold tCall
  simp only [List.append_nil]
  exact h
theorem rd_mak {C : Addr} {sp : Sp} {t : TA} {σ : L2.St} {H : Hp} {Q : VK} (h : t σ H fun vs H1 => ∀ x dx, H1 x = none → H1 dx = none → dx ≠ x →
    sp (.ref x :: vs) (upd (upd H1 dx (.own x)) x (.ins C dx [])) (fun v H2 => v = .non ∧ Q (.ref x) H2) E0) : tMake C sp [] E0 t σ H Q := by
  unfold tMake
  simp only [List.append_nil]
  exact h
end
theorem cxK {CX : CXT} {P : Program} {w : World} {K : PySem.W.Frag} {mg : Str → Option Value} {base : Heap} {N : List Str} {qual : Str} {scope : Scope} {f : Addr} {cd : Value} {A : Around} {outer : List Env} {s : Shared} {H : Hp} {E : XK} : (cxOf CX P w K mg base N qual scope f cd A outer s H E).nox.K = K := rfl
/-! ### readings: one lemma a head -/
section
variable {σ : L2.St} {H : Hp} {D : Ends} {Q : VK} {R : Bool → Hp → Prop} {t u : TS} {te ta tb tc : TE} {tA tB' : TT} {K : PySem.W.Frag} {f m : Str} {x y v : V}
theorem rd_seq (h : t { D with nx := u D } σ H) : tSeq t u D σ H := h
theorem rd_ret (h : te σ H D.rt) : tRet te D σ H := h
theorem rd_retN (h : D.rt .non H) : tRetN D σ H := h
theorem rd_drop (h : te σ H fun _ H1 => D.nx σ H1) : tDrop te D σ H := h
theorem rd_asg {g : TG} (h : te σ H fun x H1 => g x σ H1 D.nx) : tAsg te g D σ H := h
theorem rd_name {i : Nat} {P : L2.St → Hp → Prop} (h : P (σ.set i (some v)) H) : gName i v σ H P := h
theorem rd_next (h : D.nx σ H) : tNext D σ H := h
theorem rd_if {c : TT} (h : c σ H fun b H1 => if b = true then t D σ H1 else u D σ H1) : tIfS c t u D σ H := h
theorem rd_test (h : te σ H fun x H' => ∃ k, x = .bl k ∧ R k H') : tTest te σ H R := h
theorem rd_tB (h : te σ H fun x H' => ∃ k, x = .bl k ∧ R k H') : tB te σ H R := h
theorem rd_and (h : tA σ H fun c H1 => if c = true then tB' σ H1 R else R false H1) : tAnd tA tB' σ H R := h
theorem rd_or (h : tA σ H fun c H1 => if c = true then R true H1 else tB' σ H1 R) : tOr tA tB' σ H R := h
theorem rd_not (h : tA σ H fun c H1 => R (!c) H1) : tNot tA σ H R := h
theorem rd_andV (h : ta σ H fun x H1 => ∃ c, x = .bl c ∧ if c = true then tb σ H1 Q else Q (.bl false) H1) : tAndV ta tb σ H Q := h
theorem rd_orV (h : ta σ H fun x H1 => ∃ c, x = .bl c ∧ if c = true then Q (.bl true) H1 else tb σ H1 Q) : tOrV ta tb σ H Q := h
theorem rd_notV (h : ta σ H fun x H1 => ∃ c, x = .bl c ∧ Q (.bl (!c)) H1) : tNotV ta σ H Q := h
theorem rd_ifE (h : tA σ H fun c H1 => if c = true then ta σ H1 Q else tb σ H1 Q) : tIf tA ta tb σ H Q := h
theorem rd_op {r : R2} (h : ta σ H fun x H1 => tb σ H1 fun y H2 => r x y H2 Q) : tOp r ta tb σ H Q := h
theorem rd_chain {r r' : R2} (h : ta σ H fun x H1 => tb σ H1 fun y H2 => r x y H2 fun z H3 => ∃ k, z = .bl k ∧ (if k = true then tc σ H3 fun w' H4 => r' y w' H4 Q else Q (.bl false) H3)) : tChain r r' ta tb tc σ H Q := h
theorem rd_var {i : Nat} (h : σ[i]? = some (some v)) (q : Q v H) : tVar i σ H Q := ⟨v, h, q⟩
theorem rd_varE {i : Nat} (h : ∃ v, σ[i]? = some (some v) ∧ Q v H) : tVar i σ H Q := h
theorem rd_C (q : Q v H) : tC v σ H Q := q
theorem rd_rI0 {g : Int → Int → V} {i j : Int} (q : Q (g i j) H) : rI0 g (.int i) (.int j) H Q := ⟨i, j, rfl, rfl, q⟩
theorem rd_rI {C : Int → Int → Prop} {g : Int → Int → V} {i j : Int} (c : C i j) (q : Q (g i j) H) : rI C g (.int i) (.int j) H Q := ⟨i, j, rfl, rfl, c, q⟩
theorem rd_add {i j : Int} (q : Q (.int (i + j)) H) : rAdd (.int i) (.int j) H Q := ⟨i, j, rfl, rfl, q⟩
theorem rd_eqI {i j : Int} (q : Q (.bl (decide (i = j))) H) : rEq (.int i) (.int j) H Q := by
  refine ⟨rfl, ?_⟩
  rw [show decide (V.int i = V.int j) = decide (i = j) from by simp]
  exact q
theorem rd_neI {i j : Int} (q : Q (.bl (!decide (i = j))) H) : rNe (.int i) (.int j) H Q := by
  refine ⟨rfl, ?_⟩
  rw [show decide (V.int i = V.int j) = decide (i = j) from by simp]
  exact q
theorem rd_bl {k : Bool} (h : R k H) : ∃ k', V.bl k = .bl k' ∧ R k' H := ⟨k, rfl, h⟩
theorem rd_blV {k : Bool} {P : Bool → Prop} (h : P k) : ∃ k', V.bl k = .bl k' ∧ P k' := ⟨k, rfl, h⟩
theorem rd_cb {r : List V → Hp → VK → Prop} {tt : TA} (h : tt σ H fun vs H1 => r vs H1 Q) : tCB r tt σ H Q := h
theorem rd_nil {P : List V → Hp → Prop} (h : P [] H) : tNil σ H P := h
theorem rd_cons {tr : TA} {P : List V → Hp → Prop} (h : ta σ H fun x H1 => tr σ H1 fun xs H2 => P (x :: xs) H2) : tCons ta tr σ H P := h
theorem rd_lst {tt : TA} (h : tt σ H fun xs H1 => xs.length ≤ sizeLine ∧ ∀ p, H1 p = none → Q (.ref p) (upd H1 p (.lst xs))) : tLst tt σ H Q := h
theorem rd_tup {tt : TA} (h : tt σ H fun xs H1 => xs.length ≤ sizeLine ∧ ∀ p, H1 p = none → Q (.ref p) (upd H1 p (.tup xs))) : tTup tt σ H Q := h
theorem rd_sl {r : V → Option Int → Option Int → Hp → VK → Prop} {tl th : TO} (h : te σ H fun x H1 => tl σ H1 fun l H2 => th σ H2 fun u H3 => r x l u H3 Q) : tSl r te tl th σ H Q := h
theorem rd_part {P : Option Int → Hp → Prop} (h : te σ H fun x H1 => ∃ i, x = .int i ∧ P (some i) H1) : tPart te σ H P := h
theorem rd_nopart {P : Option Int → Hp → Prop} (h : P none H) : tNoPart σ H P := h
theorem rd_intV {i : Int} {P : Int → Prop} (h : P i) : ∃ j, V.int i = .int j ∧ P j := ⟨i, rfl, h⟩
theorem rd_for {g : TG} {tb : TS} (h : te σ H fun x H1 => ∃ a, x = .ref a ∧ (∃ xs, SqL K H1 a xs) ∧ ∃ W : Nat → Nat → L2.St → Hp → Prop, (∃ m, W 0 m σ H1) ∧ ∀ i m σ H, W i m σ H →
    ((Itl K a).stop i H ∧ D.nx σ H) ∨ ((Itl K a).go i H ∧ ∃ N : L2.St → Hp → Prop, (∀ σ' H', N σ' H' → ∃ m', m' < m ∧ W (i + 1) m' σ' H') ∧ ∀ x H', (Itl K a).yld i H x H' → g x σ H' fun σ2 H2 => tb { D with nx := N, ct := N, bk := D.nx } σ2 H2)) : tFor (iList K te) g tb D σ H := h
theorem rd_lcL {g : TG} {tt : TT} {tx : TE} {vs : List Nat} (h : te σ H fun x H1 => ∃ a, x = .ref a ∧ (∃ xs, SqL K H1 a xs) ∧ ∀ D, H1 D = none → ∃ W : Nat → Nat → Hp → Prop, (∃ m, W 0 m (upd H1 D (.lst []))) ∧ ∀ i m H, W i m H →
    ((Itl K a).stop i H ∧ Q (.ref D) H) ∨ ((Itl K a).go i H ∧ ∃ Nx : Hp → Prop, (∀ H', Nx H' → ∃ m', m' < m ∧ W (i + 1) m' H') ∧ ∀ x H', (Itl K a).yld i H x H' → g x (wipe σ vs) H' fun σ2 H2 => wipe σ2 vs = wipe σ vs ∧ tt σ2 H2 fun b H3 =>
      if b = true then tx σ2 H3 fun y H4 => ∃ acc, H4 D = some (.lst acc) ∧ acc.length < sizeLine ∧ Nx (upd H4 D (.lst (acc ++ [y]))) else Nx H3)) : tLc (iList K te) g tt tx vs σ H Q := h
theorem rd_lcR {g : TG} {tt : TT} {tx : TE} {vs : List Nat} {ts : TA} (h : ts σ H fun us H1 => ∃ j : Int, us = [.int j] ∧ -(2 ^ 62) ≤ j ∧ j < 2 ^ 62 ∧ ∀ D, H1 D = none → ∃ W : Nat → Nat → Hp → Prop, (∃ m, W 0 m (upd H1 D (.lst []))) ∧ ∀ i m H, W i m H →
    ((Itr 0 j.toNat).stop i H ∧ Q (.ref D) H) ∨ ((Itr 0 j.toNat).go i H ∧ ∃ Nx : Hp → Prop, (∀ H', Nx H' → ∃ m', m' < m ∧ W (i + 1) m' H') ∧ ∀ x H', (Itr 0 j.toNat).yld i H x H' → g x (wipe σ vs) H' fun σ2 H2 => wipe σ2 vs = wipe σ vs ∧ tt σ2 H2 fun b H3 =>
      if b = true then tx σ2 H3 fun y H4 => ∃ acc, H4 D = some (.lst acc) ∧ acc.length < sizeLine ∧ Nx (upd H4 D (.lst (acc ++ [y]))) else Nx H3)) : tLc (iRng1 ts) g tt tx vs σ H Q := h
theorem rd_yes (h : R true H) : tYes σ H R := h
theorem rd_bm {T : String} {r : V → List V → Hp → VK → Prop} {tt : TA} (h : ta σ H fun x H1 => tyV K T x H1 ∧ tt σ H1 fun xs H2 => r x xs H2 Q) : tBM K T r ta tt σ H Q := h
end
/-! ### readings with names -/
section
variable {X : Cx} {H : Hp} {Q : VK} {K : PySem.W.Frag}
def rIsN : R2 := fun x y H Q => y = .non ∧ Q (.bl (decide (x = .non))) H
def rNotN : R2 := fun x y H Q => y = .non ∧ Q (.bl (!decide (x = .non))) H
theorem opIsN : OpR X (compareOp .Is) rIsN := op_isN
theorem opNotN : OpR X (compareOp .IsNot) rNotN := op_notN
theorem rd_isNn (q : Q (.bl true) H) : rIsN .non .non H Q := ⟨rfl, q⟩
theorem rd_isNi {i : Int} (q : Q (.bl false) H) : rIsN (.int i) .non H Q := ⟨rfl, q⟩
theorem rd_notNn (q : Q (.bl false) H) : rNotN .non .non H Q := ⟨rfl, q⟩
theorem rd_notNi {i : Int} (q : Q (.bl true) H) : rNotN (.int i) .non H Q := ⟨rfl, q⟩
theorem rd_eqNi {i : Int} (q : Q (.bl false) H) : rEq .non (.int i) H Q := ⟨rfl, q⟩
def rMax2 : List V → Hp → VK → Prop := fun xs H Q => ∃ i j, xs = [.int i, .int j] ∧ Q (.int (if j > i then j else i)) H
def rMin2 : List V → Hp → VK → Prop := fun xs H Q => ∃ i j, xs = [.int i, .int j] ∧ Q (.int (if j < i then j else i)) H
theorem callR_max2 (hc : X.calm = true) : CallR X (.builtin "max") rMax2 := call_max2 hc
theorem callR_min2 (hc : X.calm = true) : CallR X (.builtin "min") rMin2 := call_min2 hc
theorem rd_max2 {i j : Int} (q : Q (.int (max i j)) H) : rMax2 [.int i, .int j] H Q := ⟨i, j, rfl, by
  rw [show (if j > i then j else i) = max i j by split <;> omega]
  exact q⟩
theorem rd_min2 {i j : Int} (q : Q (.int (min i j)) H) : rMin2 [.int i, .int j] H Q := ⟨i, j, rfl, by
  rw [show (if j < i then j else i) = min i j by split <;> omega]
  exact q⟩
def rLen (K : PySem.W.Frag) : List V → Hp → VK → Prop := fun xs H Q => ∃ p ys, xs = [.ref p] ∧ (SqL K H p ys ∨ SqT K H p ys) ∧ Q (.int ys.length) H
theorem callR_len : CallR X (.builtin "len") (rLen X.K) := call_len_seq
theorem rd_len {p : Addr} {ys : List V} (h : SqL K H p ys) (q : Q (.int ys.length) H) : rLen K [.ref p] H Q := ⟨p, ys, rfl, .inl h, q⟩
theorem rd_mulL {i j : Int} (c : -(2 ^ 64) < i ∧ i < 2 ^ 64) (q : Q (.int (i * j)) H) : rI CMul (fun i j => .int (i * j)) (.int i) (.int j) H Q := ⟨i, j, rfl, rfl, .inl c, q⟩
theorem rd_mulR {i j : Int} (c : -(2 ^ 64) < j ∧ j < 2 ^ 64) (q : Q (.int (i * j)) H) : rI CMul (fun i j => .int (i * j)) (.int i) (.int j) H Q := ⟨i, j, rfl, rfl, .inr c, q⟩
theorem rd_div {i j : Int} (c : 0 < j ∧ j < 1073741824) (q : Q (.int (i / j)) H) : rI CDiv (fun i j => .int (i / j)) (.int i) (.int j) H Q := ⟨i, j, rfl, rfl, c, q⟩
theorem rd_mod {i j : Int} (c : 0 < j) (q : Q (.int (i % j)) H) : rI (fun _ j => 0 < j) (fun i j => .int (i % j)) (.int i) (.int j) H Q := ⟨i, j, rfl, rfl, c, q⟩
theorem rd_ixL {p : Addr} {xs : List V} {i : Int} {v : V} (h : SqL K H p xs) (a : atI xs i = some v) (q : Q v H) : rIxL K (.ref p) (.int i) H Q := ⟨p, xs, i, v, rfl, rfl, h, a, q⟩
theorem rd_slL {p : Addr} {xs : List V} {lo hi : Option Int} (h : SqL K H p xs) (q : ∀ l, H l = none → Q (.ref l) (upd H l (.lst (cutV xs lo hi)))) : rSlL K (.ref p) lo hi H Q := ⟨p, xs, rfl, h, q⟩
theorem rd_app {l : Addr} {xs : List V} {y : V} (h : H l = some (.lst xs)) (n : xs.length < sizeLine) (q : Q .non (upd H l (.lst (xs ++ [y])))) : rAppend (.ref l) [y] H Q := ⟨l, xs, y, rfl, rfl, h, n, q⟩
theorem rd_ext {l b : Addr} {xs zs : List V} (h : H l = some (.lst xs)) (h' : H b = some (.lst zs)) (n : xs.length + zs.length ≤ sizeLine) (q : Q .non (upd H l (.lst (xs ++ zs)))) : rExtend (.ref l) [.ref b] H Q := ⟨l, b, xs, zs, rfl, rfl, h, h', n, q⟩
theorem rd_cat {l b : Addr} {xs zs : List V} (h : H l = some (.lst xs)) (h' : H b = some (.lst zs)) (n : xs.length + zs.length ≤ sizeLine) (q : ∀ p, H p = none → Q (.ref p) (upd H p (.lst (xs ++ zs)))) : rCat (.ref l) (.ref b) H Q := ⟨l, b, xs, zs, rfl, rfl, h, h', n, q⟩
theorem rd_listT {l : Addr} {xs : List V} {R : Prop} (h : SqL K H l xs) (q : R) : tyV K "list" (.ref l) H ∧ R := ⟨.inl ⟨rfl, _, h⟩, q⟩
theorem rd_ite {k : Bool} {A B : Prop} (h1 : k = true → A) (h2 : k = false → B) : if k = true then A else B := by
  cases k with
  | true => exact iteT (h1 rfl)
  | false => exact iteF (h2 rfl)
end
theorem line_is : sizeLine = 16777216 := rfl
theorem lookup_no {m : Str} : ∀ {l : List (Str × V)}, (l.map (·.1)).contains m = false → l.lookup m = none
  | [], _ => rfl
  | (k, v) :: r, h => by
    rw [List.map_cons, List.contains_cons, Bool.or_eq_false_iff] at h
    rw [List.lookup_cons, h.1]
    exact lookup_no h.2
section
variable {K : PySem.W.Frag} {mg : Str → Option Value} {A : Adr} {H : Hp} {p dx : Addr}
def L_Crank (v0 v1 v2 v3 v4 v5 : V) : List (Str × V) := [("last_time", v0), ("interval", v1), ("certainty", v2), ("place", v3), ("turn", v4), ("cam_told", v5)]
theorem lk_Crank_last_time {v0 v1 v2 v3 v4 v5 : V} : (L_Crank v0 v1 v2 v3 v4 v5).lookup ("last_time" : Str) = some v0 := by rfl
theorem fld_Crank_last_time {v0 v1 v2 v3 v4 v5 : V} (T : Txt K mg A) (hp : H p = some (.ins A.aCrank dx (L_Crank v0 v1 v2 v3 v4 v5))) : FldIs K H "last_time" (.ref p) v0 := ⟨p, _, dx, _, rfl, hp, T.cls_Crank, T.n_Crank_last_time, lk_Crank_last_time⟩
theorem pu_Crank_last_time {v0 v1 v2 v3 v4 v5 : V} {v : V} : putF "last_time" v (L_Crank v0 v1 v2 v3 v4 v5) = L_Crank v v1 v2 v3 v4 v5 := by rfl
theorem st_Crank_last_time {v0 v1 v2 v3 v4 v5 : V} {v : V} (T : Txt K mg A) (hp : H p = some (.ins A.aCrank dx (L_Crank v0 v1 v2 v3 v4 v5))) : StIs K H "last_time" (.ref p) v (upd H p (.ins A.aCrank dx (L_Crank v v1 v2 v3 v4 v5))) := ⟨p, _, dx, _, rfl, hp, T.cls_Crank, T.n_Crank_last_time, (by show 6 < 1000; decide), (by rw [pu_Crank_last_time])⟩
theorem lk_Crank_interval {v0 v1 v2 v3 v4 v5 : V} : (L_Crank v0 v1 v2 v3 v4 v5).lookup ("interval" : Str) = some v1 := by rfl
theorem fld_Crank_interval {v0 v1 v2 v3 v4 v5 : V} (T : Txt K mg A) (hp : H p = some (.ins A.aCrank dx (L_Crank v0 v1 v2 v3 v4 v5))) : FldIs K H "interval" (.ref p) v1 := ⟨p, _, dx, _, rfl, hp, T.cls_Crank, T.n_Crank_interval, lk_Crank_interval⟩
theorem pu_Crank_interval {v0 v1 v2 v3 v4 v5 : V} {v : V} : putF "interval" v (L_Crank v0 v1 v2 v3 v4 v5) = L_Crank v0 v v2 v3 v4 v5 := by rfl
theorem st_Crank_interval {v0 v1 v2 v3 v4 v5 : V} {v : V} (T : Txt K mg A) (hp : H p = some (.ins A.aCrank dx (L_Crank v0 v1 v2 v3 v4 v5))) : StIs K H "interval" (.ref p) v (upd H p (.ins A.aCrank dx (L_Crank v0 v v2 v3 v4 v5))) := ⟨p, _, dx, _, rfl, hp, T.cls_Crank, T.n_Crank_interval, (by show 6 < 1000; decide), (by rw [pu_Crank_interval])⟩
theorem lk_Crank_certainty {v0 v1 v2 v3 v4 v5 : V} : (L_Crank v0 v1 v2 v3 v4 v5).lookup ("certainty" : Str) = some v2 := by rfl
theorem fld_Crank_certainty {v0 v1 v2 v3 v4 v5 : V} (T : Txt K mg A) (hp : H p = some (.ins A.aCrank dx (L_Crank v0 v1 v2 v3 v4 v5))) : FldIs K H "certainty" (.ref p) v2 := ⟨p, _, dx, _, rfl, hp, T.cls_Crank, T.n_Crank_certainty, lk_Crank_certainty⟩
theorem pu_Crank_certainty {v0 v1 v2 v3 v4 v5 : V} {v : V} : putF "certainty" v (L_Crank v0 v1 v2 v3 v4 v5) = L_Crank v0 v1 v v3 v4 v5 := by rfl
theorem st_Crank_certainty {v0 v1 v2 v3 v4 v5 : V} {v : V} (T : Txt K mg A) (hp : H p = some (.ins A.aCrank dx (L_Crank v0 v1 v2 v3 v4 v5))) : StIs K H "certainty" (.ref p) v (upd H p (.ins A.aCrank dx (L_Crank v0 v1 v v3 v4 v5))) := ⟨p, _, dx, _, rfl, hp, T.cls_Crank, T.n_Crank_certainty, (by show 6 < 1000; decide), (by rw [pu_Crank_certainty])⟩
theorem lk_Crank_place {v0 v1 v2 v3 v4 v5 : V} : (L_Crank v0 v1 v2 v3 v4 v5).lookup ("place" : Str) = some v3 := by rfl
theorem fld_Crank_place {v0 v1 v2 v3 v4 v5 : V} (T : Txt K mg A) (hp : H p = some (.ins A.aCrank dx (L_Crank v0 v1 v2 v3 v4 v5))) : FldIs K H "place" (.ref p) v3 := ⟨p, _, dx, _, rfl, hp, T.cls_Crank, T.n_Crank_place, lk_Crank_place⟩
theorem pu_Crank_place {v0 v1 v2 v3 v4 v5 : V} {v : V} : putF "place" v (L_Crank v0 v1 v2 v3 v4 v5) = L_Crank v0 v1 v2 v v4 v5 := by rfl
theorem st_Crank_place {v0 v1 v2 v3 v4 v5 : V} {v : V} (T : Txt K mg A) (hp : H p = some (.ins A.aCrank dx (L_Crank v0 v1 v2 v3 v4 v5))) : StIs K H "place" (.ref p) v (upd H p (.ins A.aCrank dx (L_Crank v0 v1 v2 v v4 v5))) := ⟨p, _, dx, _, rfl, hp, T.cls_Crank, T.n_Crank_place, (by show 6 < 1000; decide), (by rw [pu_Crank_place])⟩
theorem lk_Crank_turn {v0 v1 v2 v3 v4 v5 : V} : (L_Crank v0 v1 v2 v3 v4 v5).lookup ("turn" : Str) = some v4 := by rfl
theorem fld_Crank_turn {v0 v1 v2 v3 v4 v5 : V} (T : Txt K mg A) (hp : H p = some (.ins A.aCrank dx (L_Crank v0 v1 v2 v3 v4 v5))) : FldIs K H "turn" (.ref p) v4 := ⟨p, _, dx, _, rfl, hp, T.cls_Crank, T.n_Crank_turn, lk_Crank_turn⟩
theorem pu_Crank_turn {v0 v1 v2 v3 v4 v5 : V} {v : V} : putF "turn" v (L_Crank v0 v1 v2 v3 v4 v5) = L_Crank v0 v1 v2 v3 v v5 := by rfl
theorem st_Crank_turn {v0 v1 v2 v3 v4 v5 : V} {v : V} (T : Txt K mg A) (hp : H p = some (.ins A.aCrank dx (L_Crank v0 v1 v2 v3 v4 v5))) : StIs K H "turn" (.ref p) v (upd H p (.ins A.aCrank dx (L_Crank v0 v1 v2 v3 v v5))) := ⟨p, _, dx, _, rfl, hp, T.cls_Crank, T.n_Crank_turn, (by show 6 < 1000; decide), (by rw [pu_Crank_turn])⟩
theorem lk_Crank_cam_told {v0 v1 v2 v3 v4 v5 : V} : (L_Crank v0 v1 v2 v3 v4 v5).lookup ("cam_told" : Str) = some v5 := by rfl
theorem fld_Crank_cam_told {v0 v1 v2 v3 v4 v5 : V} (T : Txt K mg A) (hp : H p = some (.ins A.aCrank dx (L_Crank v0 v1 v2 v3 v4 v5))) : FldIs K H "cam_told" (.ref p) v5 := ⟨p, _, dx, _, rfl, hp, T.cls_Crank, T.n_Crank_cam_told, lk_Crank_cam_told⟩
theorem pu_Crank_cam_told {v0 v1 v2 v3 v4 v5 : V} {v : V} : putF "cam_told" v (L_Crank v0 v1 v2 v3 v4 v5) = L_Crank v0 v1 v2 v3 v4 v := by rfl
theorem st_Crank_cam_told {v0 v1 v2 v3 v4 v5 : V} {v : V} (T : Txt K mg A) (hp : H p = some (.ins A.aCrank dx (L_Crank v0 v1 v2 v3 v4 v5))) : StIs K H "cam_told" (.ref p) v (upd H p (.ins A.aCrank dx (L_Crank v0 v1 v2 v3 v4 v))) := ⟨p, _, dx, _, rfl, hp, T.cls_Crank, T.n_Crank_cam_told, (by show 6 < 1000; decide), (by rw [pu_Crank_cam_told])⟩
theorem init_Crank {v0 v1 v2 v3 v4 v5 : V} : putF "cam_told" v5 (putF "turn" v4 (putF "place" v3 (putF "certainty" v2 (putF "interval" v1 (putF "last_time" v0 ([])))))) = L_Crank v0 v1 v2 v3 v4 v5 := by rfl
theorem rc_Crank {v0 v1 v2 v3 v4 v5 : V} {m : Str} (hp : H p = some (.ins A.aCrank dx (L_Crank v0 v1 v2 v3 v4 v5))) (hm : (["last_time", "interval", "certainty", "place", "turn", "cam_told"] : List Str).contains m = false := by decide +kernel) : RcIs A.aCrank H m (.ref p) := ⟨p, dx, _, rfl, hp, lookup_no (by rw [show (L_Crank v0 v1 v2 v3 v4 v5).map (·.1) = (["last_time", "interval", "certainty", "place", "turn", "cam_told"] : List Str) from rfl]; exact hm)⟩
def L_Cylinder (v0 v1 v2 v3 : V) : List (Str × V) := [("number", v0), ("phase", v1), ("went_on", v2), ("off", v3)]
theorem lk_Cylinder_number {v0 v1 v2 v3 : V} : (L_Cylinder v0 v1 v2 v3).lookup ("number" : Str) = some v0 := by rfl
theorem fld_Cylinder_number {v0 v1 v2 v3 : V} (T : Txt K mg A) (hp : H p = some (.ins A.aCylinder dx (L_Cylinder v0 v1 v2 v3))) : FldIs K H "number" (.ref p) v0 := ⟨p, _, dx, _, rfl, hp, T.cls_Cylinder, T.n_Cylinder_number, lk_Cylinder_number⟩
theorem pu_Cylinder_number {v0 v1 v2 v3 : V} {v : V} : putF "number" v (L_Cylinder v0 v1 v2 v3) = L_Cylinder v v1 v2 v3 := by rfl
theorem st_Cylinder_number {v0 v1 v2 v3 : V} {v : V} (T : Txt K mg A) (hp : H p = some (.ins A.aCylinder dx (L_Cylinder v0 v1 v2 v3))) : StIs K H "number" (.ref p) v (upd H p (.ins A.aCylinder dx (L_Cylinder v v1 v2 v3))) := ⟨p, _, dx, _, rfl, hp, T.cls_Cylinder, T.n_Cylinder_number, (by show 4 < 1000; decide), (by rw [pu_Cylinder_number])⟩
theorem lk_Cylinder_phase {v0 v1 v2 v3 : V} : (L_Cylinder v0 v1 v2 v3).lookup ("phase" : Str) = some v1 := by rfl
theorem fld_Cylinder_phase {v0 v1 v2 v3 : V} (T : Txt K mg A) (hp : H p = some (.ins A.aCylinder dx (L_Cylinder v0 v1 v2 v3))) : FldIs K H "phase" (.ref p) v1 := ⟨p, _, dx, _, rfl, hp, T.cls_Cylinder, T.n_Cylinder_phase, lk_Cylinder_phase⟩
theorem pu_Cylinder_phase {v0 v1 v2 v3 : V} {v : V} : putF "phase" v (L_Cylinder v0 v1 v2 v3) = L_Cylinder v0 v v2 v3 := by rfl
theorem st_Cylinder_phase {v0 v1 v2 v3 : V} {v : V} (T : Txt K mg A) (hp : H p = some (.ins A.aCylinder dx (L_Cylinder v0 v1 v2 v3))) : StIs K H "phase" (.ref p) v (upd H p (.ins A.aCylinder dx (L_Cylinder v0 v v2 v3))) := ⟨p, _, dx, _, rfl, hp, T.cls_Cylinder, T.n_Cylinder_phase, (by show 4 < 1000; decide), (by rw [pu_Cylinder_phase])⟩
theorem lk_Cylinder_went_on {v0 v1 v2 v3 : V} : (L_Cylinder v0 v1 v2 v3).lookup ("went_on" : Str) = some v2 := by rfl
theorem fld_Cylinder_went_on {v0 v1 v2 v3 : V} (T : Txt K mg A) (hp : H p = some (.ins A.aCylinder dx (L_Cylinder v0 v1 v2 v3))) : FldIs K H "went_on" (.ref p) v2 := ⟨p, _, dx, _, rfl, hp, T.cls_Cylinder, T.n_Cylinder_went_on, lk_Cylinder_went_on⟩
theorem pu_Cylinder_went_on {v0 v1 v2 v3 : V} {v : V} : putF "went_on" v (L_Cylinder v0 v1 v2 v3) = L_Cylinder v0 v1 v v3 := by rfl
theorem st_Cylinder_went_on {v0 v1 v2 v3 : V} {v : V} (T : Txt K mg A) (hp : H p = some (.ins A.aCylinder dx (L_Cylinder v0 v1 v2 v3))) : StIs K H "went_on" (.ref p) v (upd H p (.ins A.aCylinder dx (L_Cylinder v0 v1 v v3))) := ⟨p, _, dx, _, rfl, hp, T.cls_Cylinder, T.n_Cylinder_went_on, (by show 4 < 1000; decide), (by rw [pu_Cylinder_went_on])⟩
theorem lk_Cylinder_off {v0 v1 v2 v3 : V} : (L_Cylinder v0 v1 v2 v3).lookup ("off" : Str) = some v3 := by rfl
theorem fld_Cylinder_off {v0 v1 v2 v3 : V} (T : Txt K mg A) (hp : H p = some (.ins A.aCylinder dx (L_Cylinder v0 v1 v2 v3))) : FldIs K H "off" (.ref p) v3 := ⟨p, _, dx, _, rfl, hp, T.cls_Cylinder, T.n_Cylinder_off, lk_Cylinder_off⟩
theorem pu_Cylinder_off {v0 v1 v2 v3 : V} {v : V} : putF "off" v (L_Cylinder v0 v1 v2 v3) = L_Cylinder v0 v1 v2 v := by rfl
theorem st_Cylinder_off {v0 v1 v2 v3 : V} {v : V} (T : Txt K mg A) (hp : H p = some (.ins A.aCylinder dx (L_Cylinder v0 v1 v2 v3))) : StIs K H "off" (.ref p) v (upd H p (.ins A.aCylinder dx (L_Cylinder v0 v1 v2 v))) := ⟨p, _, dx, _, rfl, hp, T.cls_Cylinder, T.n_Cylinder_off, (by show 4 < 1000; decide), (by rw [pu_Cylinder_off])⟩
theorem init_Cylinder {v0 v1 v2 v3 : V} : putF "off" v3 (putF "went_on" v2 (putF "phase" v1 (putF "number" v0 ([])))) = L_Cylinder v0 v1 v2 v3 := by rfl
theorem rc_Cylinder {v0 v1 v2 v3 : V} {m : Str} (hp : H p = some (.ins A.aCylinder dx (L_Cylinder v0 v1 v2 v3))) (hm : (["number", "phase", "went_on", "off"] : List Str).contains m = false := by decide +kernel) : RcIs A.aCylinder H m (.ref p) := ⟨p, dx, _, rfl, hp, lookup_no (by rw [show (L_Cylinder v0 v1 v2 v3).map (·.1) = (["number", "phase", "went_on", "off"] : List Str) from rfl]; exact hm)⟩
def L_Moment (v0 v1 v2 v3 : V) : List (Str × V) := [("now", v0), ("position", v1), ("pace", v2), ("span", v3)]
theorem lk_Moment_now {v0 v1 v2 v3 : V} : (L_Moment v0 v1 v2 v3).lookup ("now" : Str) = some v0 := by rfl
theorem fld_Moment_now {v0 v1 v2 v3 : V} (T : Txt K mg A) (hp : H p = some (.ins A.aMoment dx (L_Moment v0 v1 v2 v3))) : FldIs K H "now" (.ref p) v0 := ⟨p, _, dx, _, rfl, hp, T.cls_Moment, T.n_Moment_now, lk_Moment_now⟩
theorem pu_Moment_now {v0 v1 v2 v3 : V} {v : V} : putF "now" v (L_Moment v0 v1 v2 v3) = L_Moment v v1 v2 v3 := by rfl
theorem st_Moment_now {v0 v1 v2 v3 : V} {v : V} (T : Txt K mg A) (hp : H p = some (.ins A.aMoment dx (L_Moment v0 v1 v2 v3))) : StIs K H "now" (.ref p) v (upd H p (.ins A.aMoment dx (L_Moment v v1 v2 v3))) := ⟨p, _, dx, _, rfl, hp, T.cls_Moment, T.n_Moment_now, (by show 4 < 1000; decide), (by rw [pu_Moment_now])⟩
theorem lk_Moment_position {v0 v1 v2 v3 : V} : (L_Moment v0 v1 v2 v3).lookup ("position" : Str) = some v1 := by rfl
theorem fld_Moment_position {v0 v1 v2 v3 : V} (T : Txt K mg A) (hp : H p = some (.ins A.aMoment dx (L_Moment v0 v1 v2 v3))) : FldIs K H "position" (.ref p) v1 := ⟨p, _, dx, _, rfl, hp, T.cls_Moment, T.n_Moment_position, lk_Moment_position⟩
theorem pu_Moment_position {v0 v1 v2 v3 : V} {v : V} : putF "position" v (L_Moment v0 v1 v2 v3) = L_Moment v0 v v2 v3 := by rfl
theorem st_Moment_position {v0 v1 v2 v3 : V} {v : V} (T : Txt K mg A) (hp : H p = some (.ins A.aMoment dx (L_Moment v0 v1 v2 v3))) : StIs K H "position" (.ref p) v (upd H p (.ins A.aMoment dx (L_Moment v0 v v2 v3))) := ⟨p, _, dx, _, rfl, hp, T.cls_Moment, T.n_Moment_position, (by show 4 < 1000; decide), (by rw [pu_Moment_position])⟩
theorem lk_Moment_pace {v0 v1 v2 v3 : V} : (L_Moment v0 v1 v2 v3).lookup ("pace" : Str) = some v2 := by rfl
theorem fld_Moment_pace {v0 v1 v2 v3 : V} (T : Txt K mg A) (hp : H p = some (.ins A.aMoment dx (L_Moment v0 v1 v2 v3))) : FldIs K H "pace" (.ref p) v2 := ⟨p, _, dx, _, rfl, hp, T.cls_Moment, T.n_Moment_pace, lk_Moment_pace⟩
theorem pu_Moment_pace {v0 v1 v2 v3 : V} {v : V} : putF "pace" v (L_Moment v0 v1 v2 v3) = L_Moment v0 v1 v v3 := by rfl
theorem st_Moment_pace {v0 v1 v2 v3 : V} {v : V} (T : Txt K mg A) (hp : H p = some (.ins A.aMoment dx (L_Moment v0 v1 v2 v3))) : StIs K H "pace" (.ref p) v (upd H p (.ins A.aMoment dx (L_Moment v0 v1 v v3))) := ⟨p, _, dx, _, rfl, hp, T.cls_Moment, T.n_Moment_pace, (by show 4 < 1000; decide), (by rw [pu_Moment_pace])⟩
theorem lk_Moment_span {v0 v1 v2 v3 : V} : (L_Moment v0 v1 v2 v3).lookup ("span" : Str) = some v3 := by rfl
theorem fld_Moment_span {v0 v1 v2 v3 : V} (T : Txt K mg A) (hp : H p = some (.ins A.aMoment dx (L_Moment v0 v1 v2 v3))) : FldIs K H "span" (.ref p) v3 := ⟨p, _, dx, _, rfl, hp, T.cls_Moment, T.n_Moment_span, lk_Moment_span⟩
theorem pu_Moment_span {v0 v1 v2 v3 : V} {v : V} : putF "span" v (L_Moment v0 v1 v2 v3) = L_Moment v0 v1 v2 v := by rfl
theorem st_Moment_span {v0 v1 v2 v3 : V} {v : V} (T : Txt K mg A) (hp : H p = some (.ins A.aMoment dx (L_Moment v0 v1 v2 v3))) : StIs K H "span" (.ref p) v (upd H p (.ins A.aMoment dx (L_Moment v0 v1 v2 v))) := ⟨p, _, dx, _, rfl, hp, T.cls_Moment, T.n_Moment_span, (by show 4 < 1000; decide), (by rw [pu_Moment_span])⟩
theorem init_Moment {v0 v1 v2 v3 : V} : putF "span" v3 (putF "pace" v2 (putF "position" v1 (putF "now" v0 ([])))) = L_Moment v0 v1 v2 v3 := by rfl
theorem rc_Moment {v0 v1 v2 v3 : V} {m : Str} (hp : H p = some (.ins A.aMoment dx (L_Moment v0 v1 v2 v3))) (hm : (["now", "position", "pace", "span"] : List Str).contains m = false := by decide +kernel) : RcIs A.aMoment H m (.ref p) := ⟨p, dx, _, rfl, hp, lookup_no (by rw [show (L_Moment v0 v1 v2 v3).map (·.1) = (["now", "position", "pace", "span"] : List Str) from rfl]; exact hm)⟩
def L_Timing (v0 v1 v2 v3 : V) : List (Str × V) := [("dwell", v0), ("most", v1), ("advance", v2), ("fuel", v3)]
theorem lk_Timing_dwell {v0 v1 v2 v3 : V} : (L_Timing v0 v1 v2 v3).lookup ("dwell" : Str) = some v0 := by rfl
theorem fld_Timing_dwell {v0 v1 v2 v3 : V} (T : Txt K mg A) (hp : H p = some (.ins A.aTiming dx (L_Timing v0 v1 v2 v3))) : FldIs K H "dwell" (.ref p) v0 := ⟨p, _, dx, _, rfl, hp, T.cls_Timing, T.n_Timing_dwell, lk_Timing_dwell⟩
theorem pu_Timing_dwell {v0 v1 v2 v3 : V} {v : V} : putF "dwell" v (L_Timing v0 v1 v2 v3) = L_Timing v v1 v2 v3 := by rfl
theorem st_Timing_dwell {v0 v1 v2 v3 : V} {v : V} (T : Txt K mg A) (hp : H p = some (.ins A.aTiming dx (L_Timing v0 v1 v2 v3))) : StIs K H "dwell" (.ref p) v (upd H p (.ins A.aTiming dx (L_Timing v v1 v2 v3))) := ⟨p, _, dx, _, rfl, hp, T.cls_Timing, T.n_Timing_dwell, (by show 4 < 1000; decide), (by rw [pu_Timing_dwell])⟩
theorem lk_Timing_most {v0 v1 v2 v3 : V} : (L_Timing v0 v1 v2 v3).lookup ("most" : Str) = some v1 := by rfl
theorem fld_Timing_most {v0 v1 v2 v3 : V} (T : Txt K mg A) (hp : H p = some (.ins A.aTiming dx (L_Timing v0 v1 v2 v3))) : FldIs K H "most" (.ref p) v1 := ⟨p, _, dx, _, rfl, hp, T.cls_Timing, T.n_Timing_most, lk_Timing_most⟩
theorem pu_Timing_most {v0 v1 v2 v3 : V} {v : V} : putF "most" v (L_Timing v0 v1 v2 v3) = L_Timing v0 v v2 v3 := by rfl
theorem st_Timing_most {v0 v1 v2 v3 : V} {v : V} (T : Txt K mg A) (hp : H p = some (.ins A.aTiming dx (L_Timing v0 v1 v2 v3))) : StIs K H "most" (.ref p) v (upd H p (.ins A.aTiming dx (L_Timing v0 v v2 v3))) := ⟨p, _, dx, _, rfl, hp, T.cls_Timing, T.n_Timing_most, (by show 4 < 1000; decide), (by rw [pu_Timing_most])⟩
theorem lk_Timing_advance {v0 v1 v2 v3 : V} : (L_Timing v0 v1 v2 v3).lookup ("advance" : Str) = some v2 := by rfl
theorem fld_Timing_advance {v0 v1 v2 v3 : V} (T : Txt K mg A) (hp : H p = some (.ins A.aTiming dx (L_Timing v0 v1 v2 v3))) : FldIs K H "advance" (.ref p) v2 := ⟨p, _, dx, _, rfl, hp, T.cls_Timing, T.n_Timing_advance, lk_Timing_advance⟩
theorem pu_Timing_advance {v0 v1 v2 v3 : V} {v : V} : putF "advance" v (L_Timing v0 v1 v2 v3) = L_Timing v0 v1 v v3 := by rfl
theorem st_Timing_advance {v0 v1 v2 v3 : V} {v : V} (T : Txt K mg A) (hp : H p = some (.ins A.aTiming dx (L_Timing v0 v1 v2 v3))) : StIs K H "advance" (.ref p) v (upd H p (.ins A.aTiming dx (L_Timing v0 v1 v v3))) := ⟨p, _, dx, _, rfl, hp, T.cls_Timing, T.n_Timing_advance, (by show 4 < 1000; decide), (by rw [pu_Timing_advance])⟩
theorem lk_Timing_fuel {v0 v1 v2 v3 : V} : (L_Timing v0 v1 v2 v3).lookup ("fuel" : Str) = some v3 := by rfl
theorem fld_Timing_fuel {v0 v1 v2 v3 : V} (T : Txt K mg A) (hp : H p = some (.ins A.aTiming dx (L_Timing v0 v1 v2 v3))) : FldIs K H "fuel" (.ref p) v3 := ⟨p, _, dx, _, rfl, hp, T.cls_Timing, T.n_Timing_fuel, lk_Timing_fuel⟩
theorem pu_Timing_fuel {v0 v1 v2 v3 : V} {v : V} : putF "fuel" v (L_Timing v0 v1 v2 v3) = L_Timing v0 v1 v2 v := by rfl
theorem st_Timing_fuel {v0 v1 v2 v3 : V} {v : V} (T : Txt K mg A) (hp : H p = some (.ins A.aTiming dx (L_Timing v0 v1 v2 v3))) : StIs K H "fuel" (.ref p) v (upd H p (.ins A.aTiming dx (L_Timing v0 v1 v2 v))) := ⟨p, _, dx, _, rfl, hp, T.cls_Timing, T.n_Timing_fuel, (by show 4 < 1000; decide), (by rw [pu_Timing_fuel])⟩
theorem init_Timing {v0 v1 v2 v3 : V} : putF "fuel" v3 (putF "advance" v2 (putF "most" v1 (putF "dwell" v0 ([])))) = L_Timing v0 v1 v2 v3 := by rfl
theorem rc_Timing {v0 v1 v2 v3 : V} {m : Str} (hp : H p = some (.ins A.aTiming dx (L_Timing v0 v1 v2 v3))) (hm : (["dwell", "most", "advance", "fuel"] : List Str).contains m = false := by decide +kernel) : RcIs A.aTiming H m (.ref p) := ⟨p, dx, _, rfl, hp, lookup_no (by rw [show (L_Timing v0 v1 v2 v3).map (·.1) = (["dwell", "most", "advance", "fuel"] : List Str) from rfl]; exact hm)⟩
def L_Engine (v0 v1 v2 v3 v4 v5 v6 : V) : List (Str × V) := [("dwell", v0), ("most", v1), ("advances", v2), ("fuels", v3), ("load_now", v4), ("crank", v5), ("cylinders", v6)]
theorem lk_Engine_dwell {v0 v1 v2 v3 v4 v5 v6 : V} : (L_Engine v0 v1 v2 v3 v4 v5 v6).lookup ("dwell" : Str) = some v0 := by rfl
theorem fld_Engine_dwell {v0 v1 v2 v3 v4 v5 v6 : V} (T : Txt K mg A) (hp : H p = some (.ins A.aEngine dx (L_Engine v0 v1 v2 v3 v4 v5 v6))) : FldIs K H "dwell" (.ref p) v0 := ⟨p, _, dx, _, rfl, hp, T.cls_Engine, T.n_Engine_dwell, lk_Engine_dwell⟩
theorem pu_Engine_dwell {v0 v1 v2 v3 v4 v5 v6 : V} {v : V} : putF "dwell" v (L_Engine v0 v1 v2 v3 v4 v5 v6) = L_Engine v v1 v2 v3 v4 v5 v6 := by rfl
theorem st_Engine_dwell {v0 v1 v2 v3 v4 v5 v6 : V} {v : V} (T : Txt K mg A) (hp : H p = some (.ins A.aEngine dx (L_Engine v0 v1 v2 v3 v4 v5 v6))) : StIs K H "dwell" (.ref p) v (upd H p (.ins A.aEngine dx (L_Engine v v1 v2 v3 v4 v5 v6))) := ⟨p, _, dx, _, rfl, hp, T.cls_Engine, T.n_Engine_dwell, (by show 7 < 1000; decide), (by rw [pu_Engine_dwell])⟩
theorem lk_Engine_most {v0 v1 v2 v3 v4 v5 v6 : V} : (L_Engine v0 v1 v2 v3 v4 v5 v6).lookup ("most" : Str) = some v1 := by rfl
theorem fld_Engine_most {v0 v1 v2 v3 v4 v5 v6 : V} (T : Txt K mg A) (hp : H p = some (.ins A.aEngine dx (L_Engine v0 v1 v2 v3 v4 v5 v6))) : FldIs K H "most" (.ref p) v1 := ⟨p, _, dx, _, rfl, hp, T.cls_Engine, T.n_Engine_most, lk_Engine_most⟩
theorem pu_Engine_most {v0 v1 v2 v3 v4 v5 v6 : V} {v : V} : putF "most" v (L_Engine v0 v1 v2 v3 v4 v5 v6) = L_Engine v0 v v2 v3 v4 v5 v6 := by rfl
theorem st_Engine_most {v0 v1 v2 v3 v4 v5 v6 : V} {v : V} (T : Txt K mg A) (hp : H p = some (.ins A.aEngine dx (L_Engine v0 v1 v2 v3 v4 v5 v6))) : StIs K H "most" (.ref p) v (upd H p (.ins A.aEngine dx (L_Engine v0 v v2 v3 v4 v5 v6))) := ⟨p, _, dx, _, rfl, hp, T.cls_Engine, T.n_Engine_most, (by show 7 < 1000; decide), (by rw [pu_Engine_most])⟩
theorem lk_Engine_advances {v0 v1 v2 v3 v4 v5 v6 : V} : (L_Engine v0 v1 v2 v3 v4 v5 v6).lookup ("advances" : Str) = some v2 := by rfl
theorem fld_Engine_advances {v0 v1 v2 v3 v4 v5 v6 : V} (T : Txt K mg A) (hp : H p = some (.ins A.aEngine dx (L_Engine v0 v1 v2 v3 v4 v5 v6))) : FldIs K H "advances" (.ref p) v2 := ⟨p, _, dx, _, rfl, hp, T.cls_Engine, T.n_Engine_advances, lk_Engine_advances⟩
theorem pu_Engine_advances {v0 v1 v2 v3 v4 v5 v6 : V} {v : V} : putF "advances" v (L_Engine v0 v1 v2 v3 v4 v5 v6) = L_Engine v0 v1 v v3 v4 v5 v6 := by rfl
theorem st_Engine_advances {v0 v1 v2 v3 v4 v5 v6 : V} {v : V} (T : Txt K mg A) (hp : H p = some (.ins A.aEngine dx (L_Engine v0 v1 v2 v3 v4 v5 v6))) : StIs K H "advances" (.ref p) v (upd H p (.ins A.aEngine dx (L_Engine v0 v1 v v3 v4 v5 v6))) := ⟨p, _, dx, _, rfl, hp, T.cls_Engine, T.n_Engine_advances, (by show 7 < 1000; decide), (by rw [pu_Engine_advances])⟩
theorem lk_Engine_fuels {v0 v1 v2 v3 v4 v5 v6 : V} : (L_Engine v0 v1 v2 v3 v4 v5 v6).lookup ("fuels" : Str) = some v3 := by rfl
theorem fld_Engine_fuels {v0 v1 v2 v3 v4 v5 v6 : V} (T : Txt K mg A) (hp : H p = some (.ins A.aEngine dx (L_Engine v0 v1 v2 v3 v4 v5 v6))) : FldIs K H "fuels" (.ref p) v3 := ⟨p, _, dx, _, rfl, hp, T.cls_Engine, T.n_Engine_fuels, lk_Engine_fuels⟩
theorem pu_Engine_fuels {v0 v1 v2 v3 v4 v5 v6 : V} {v : V} : putF "fuels" v (L_Engine v0 v1 v2 v3 v4 v5 v6) = L_Engine v0 v1 v2 v v4 v5 v6 := by rfl
theorem st_Engine_fuels {v0 v1 v2 v3 v4 v5 v6 : V} {v : V} (T : Txt K mg A) (hp : H p = some (.ins A.aEngine dx (L_Engine v0 v1 v2 v3 v4 v5 v6))) : StIs K H "fuels" (.ref p) v (upd H p (.ins A.aEngine dx (L_Engine v0 v1 v2 v v4 v5 v6))) := ⟨p, _, dx, _, rfl, hp, T.cls_Engine, T.n_Engine_fuels, (by show 7 < 1000; decide), (by rw [pu_Engine_fuels])⟩
theorem lk_Engine_load_now {v0 v1 v2 v3 v4 v5 v6 : V} : (L_Engine v0 v1 v2 v3 v4 v5 v6).lookup ("load_now" : Str) = some v4 := by rfl
theorem fld_Engine_load_now {v0 v1 v2 v3 v4 v5 v6 : V} (T : Txt K mg A) (hp : H p = some (.ins A.aEngine dx (L_Engine v0 v1 v2 v3 v4 v5 v6))) : FldIs K H "load_now" (.ref p) v4 := ⟨p, _, dx, _, rfl, hp, T.cls_Engine, T.n_Engine_load_now, lk_Engine_load_now⟩
theorem pu_Engine_load_now {v0 v1 v2 v3 v4 v5 v6 : V} {v : V} : putF "load_now" v (L_Engine v0 v1 v2 v3 v4 v5 v6) = L_Engine v0 v1 v2 v3 v v5 v6 := by rfl
theorem st_Engine_load_now {v0 v1 v2 v3 v4 v5 v6 : V} {v : V} (T : Txt K mg A) (hp : H p = some (.ins A.aEngine dx (L_Engine v0 v1 v2 v3 v4 v5 v6))) : StIs K H "load_now" (.ref p) v (upd H p (.ins A.aEngine dx (L_Engine v0 v1 v2 v3 v v5 v6))) := ⟨p, _, dx, _, rfl, hp, T.cls_Engine, T.n_Engine_load_now, (by show 7 < 1000; decide), (by rw [pu_Engine_load_now])⟩
theorem lk_Engine_crank {v0 v1 v2 v3 v4 v5 v6 : V} : (L_Engine v0 v1 v2 v3 v4 v5 v6).lookup ("crank" : Str) = some v5 := by rfl
theorem fld_Engine_crank {v0 v1 v2 v3 v4 v5 v6 : V} (T : Txt K mg A) (hp : H p = some (.ins A.aEngine dx (L_Engine v0 v1 v2 v3 v4 v5 v6))) : FldIs K H "crank" (.ref p) v5 := ⟨p, _, dx, _, rfl, hp, T.cls_Engine, T.n_Engine_crank, lk_Engine_crank⟩
theorem pu_Engine_crank {v0 v1 v2 v3 v4 v5 v6 : V} {v : V} : putF "crank" v (L_Engine v0 v1 v2 v3 v4 v5 v6) = L_Engine v0 v1 v2 v3 v4 v v6 := by rfl
theorem st_Engine_crank {v0 v1 v2 v3 v4 v5 v6 : V} {v : V} (T : Txt K mg A) (hp : H p = some (.ins A.aEngine dx (L_Engine v0 v1 v2 v3 v4 v5 v6))) : StIs K H "crank" (.ref p) v (upd H p (.ins A.aEngine dx (L_Engine v0 v1 v2 v3 v4 v v6))) := ⟨p, _, dx, _, rfl, hp, T.cls_Engine, T.n_Engine_crank, (by show 7 < 1000; decide), (by rw [pu_Engine_crank])⟩
theorem lk_Engine_cylinders {v0 v1 v2 v3 v4 v5 v6 : V} : (L_Engine v0 v1 v2 v3 v4 v5 v6).lookup ("cylinders" : Str) = some v6 := by rfl
theorem fld_Engine_cylinders {v0 v1 v2 v3 v4 v5 v6 : V} (T : Txt K mg A) (hp : H p = some (.ins A.aEngine dx (L_Engine v0 v1 v2 v3 v4 v5 v6))) : FldIs K H "cylinders" (.ref p) v6 := ⟨p, _, dx, _, rfl, hp, T.cls_Engine, T.n_Engine_cylinders, lk_Engine_cylinders⟩
theorem pu_Engine_cylinders {v0 v1 v2 v3 v4 v5 v6 : V} {v : V} : putF "cylinders" v (L_Engine v0 v1 v2 v3 v4 v5 v6) = L_Engine v0 v1 v2 v3 v4 v5 v := by rfl
theorem st_Engine_cylinders {v0 v1 v2 v3 v4 v5 v6 : V} {v : V} (T : Txt K mg A) (hp : H p = some (.ins A.aEngine dx (L_Engine v0 v1 v2 v3 v4 v5 v6))) : StIs K H "cylinders" (.ref p) v (upd H p (.ins A.aEngine dx (L_Engine v0 v1 v2 v3 v4 v5 v))) := ⟨p, _, dx, _, rfl, hp, T.cls_Engine, T.n_Engine_cylinders, (by show 7 < 1000; decide), (by rw [pu_Engine_cylinders])⟩
theorem init_Engine {v0 v1 v2 v3 v4 v5 v6 : V} : putF "cylinders" v6 (putF "crank" v5 (putF "load_now" v4 (putF "fuels" v3 (putF "advances" v2 (putF "most" v1 (putF "dwell" v0 ([]))))))) = L_Engine v0 v1 v2 v3 v4 v5 v6 := by rfl
theorem rc_Engine {v0 v1 v2 v3 v4 v5 v6 : V} {m : Str} (hp : H p = some (.ins A.aEngine dx (L_Engine v0 v1 v2 v3 v4 v5 v6))) (hm : (["dwell", "most", "advances", "fuels", "load_now", "crank", "cylinders"] : List Str).contains m = false := by decide +kernel) : RcIs A.aEngine H m (.ref p) := ⟨p, dx, _, rfl, hp, lookup_no (by rw [show (L_Engine v0 v1 v2 v3 v4 v5 v6).map (·.1) = (["dwell", "most", "advances", "fuels", "load_now", "crank", "cylinders"] : List Str) from rfl]; exact hm)⟩
end
/-! ### heaps -/
theorem upd_id {H : Hp} {p : Addr} {o : HO} (h : H p = some o) : upd H p o = H := by
  funext b
  unfold upd
  split
  · next e => rw [e, h]
  · rfl
theorem upd_none {H : Hp} {p q : Addr} {o : HO} (h : upd H p o q = none) : H q = none ∧ q ≠ p := by
  unfold upd at h
  split at h
  · cases h
  · next e => exact ⟨h, e⟩
theorem upd_comm {H : Hp} {p q : Addr} {o u : HO} (h : p ≠ q) : upd (upd H p o) q u = upd (upd H q u) p o := by
  funext b
  unfold upd
  split
  · next e =>
    split
    · next e' => exact absurd (e'.symm.trans e) h
    · rfl
  · rfl
theorem upd_upd {H : Hp} {p : Addr} {o u : HO} : upd (upd H p o) p u = upd H p u := by
  funext b
  unfold upd
  split <;> rfl
/-- all but p is as it was -/
def Fr1 (p : Addr) (H H' : Hp) : Prop := ∀ b o, H b = some o → b ≠ p → H' b = some o
theorem Fr1.refl {p : Addr} {H : Hp} : Fr1 p H H := fun _ _ h _ => h
theorem Fr1.u {p : Addr} {H H' : Hp} {o : HO} (f : Fr1 p H H') : Fr1 p H (upd H' p o) := fun b u h hb => by
  rw [upd_ne hb]
  exact f b u h hb
theorem Fr1.n {p q : Addr} {H H' : Hp} {o : HO} (f : Fr1 p H H') (hq : H q = none) : Fr1 p H (upd H' q o) := fun b u h hb => by
  rw [upd_ne (ne_of_none h hq)]
  exact f b u h hb
theorem Fr1.trans {p : Addr} {H H1 H2 : Hp} (f : Fr1 p H H1) (g : Fr1 p H1 H2) : Fr1 p H H2 := fun b o h hb => g b o (f b o h hb) hb
theorem Fr1.free {p q : Addr} {H H' : Hp} {o : HO} (f : Fr1 p H H') (hp : H' p = some o) (hq : H' q = none) : H q = none := by
  cases e : H q with
  | none => rfl
  | some u =>
    by_cases c : q = p
    · subst c
      rw [hp] at hq
      cases hq
    · rw [f q u e c] at hq
      cases hq
/-- two instances of unlike fields stand apart -/
theorem ins_ne {C C' dx dx' : Addr} {fs fs' : List (Str × V)} {v : V} (f : Str) (h : fs.lookup f = none) (h' : fs'.lookup f = some v) : HO.ins C dx fs ≠ HO.ins C' dx' fs' := by
  intro e
  injection e with _ _ e
  subst e
  rw [h] at h'
  cases h'
theorem ins_en {C C' dx dx' : Addr} {fs fs' : List (Str × V)} {v : V} (f : Str) (h : fs.lookup f = some v) (h' : fs'.lookup f = none) : HO.ins C dx fs ≠ HO.ins C' dx' fs' := fun e => ins_ne f h' h e.symm
def NotIns : HO → Prop
  | .ins _ _ _ => False
  | _ => True
/-- all that is no instance is as it was; what was there is there -/
def Kp (H H' : Hp) : Prop := ∀ b o, H b = some o → ∃ o', H' b = some o' ∧ (NotIns o → o' = o)
theorem Kp.refl {H : Hp} : Kp H H := fun _ o h => ⟨o, h, fun _ => rfl⟩
theorem Kp.trans {H H1 H2 : Hp} (f : Kp H H1) (g : Kp H1 H2) : Kp H H2 := fun b o h => by
  obtain ⟨o1, h1, e1⟩ := f b o h
  obtain ⟨o2, h2, e2⟩ := g b o1 h1
  exact ⟨o2, h2, fun n => by rw [e2 (by rw [e1 n]; exact n), e1 n]⟩
theorem Kp.at {H H' : Hp} {b : Addr} {o : HO} (f : Kp H H') (h : H b = some o) (n : NotIns o) : H' b = some o := by
  obtain ⟨o1, h1, e1⟩ := f b o h
  rw [e1 n] at h1
  exact h1
theorem Kp.lst {H H' : Hp} {b : Addr} {xs : List V} (f : Kp H H') (h : H b = some (.lst xs)) : H' b = some (.lst xs) := f.at h trivial
theorem Kp.free {H H' : Hp} {q : Addr} (f : Kp H H') (h : H' q = none) : H q = none := by
  cases e : H q with
  | none => rfl
  | some o =>
    obtain ⟨o1, h1, _⟩ := f q o e
    rw [h1] at h
    cases h
theorem Kp.seq {K : PySem.W.Frag} {H H' : Hp} {a : Addr} {xs : List V} (f : Kp H H') (h : SqL K H a xs) : SqL K H' a xs := by
  rcases h with (h | ⟨o, h⟩) | h
  · exact .inl (.inl (f.at h trivial))
  · exact .inl (.inr ⟨o, f.at h trivial⟩)
  · exact .inr h
theorem Kp.n {H H' : Hp} {q : Addr} {o : HO} (f : Kp H H') (hq : H q = none) : Kp H (upd H' q o) := fun b u h => by
  obtain ⟨o1, h1, e1⟩ := f b u h
  exact ⟨o1, by rw [upd_ne (ne_of_none h hq)]; exact h1, e1⟩
theorem Kp.u {H H' : Hp} {p C dx : Addr} {fs : List (Str × V)} {o : HO} (f : Kp H H') (hp : H p = some (.ins C dx fs)) : Kp H (upd H' p o) := fun b u h => by
  by_cases e : b = p
  · subst e
    rw [hp] at h
    cases h
    exact ⟨o, upd_same, fun n => n.elim⟩
  · obtain ⟨o1, h1, e1⟩ := f b u h
    exact ⟨o1, by rw [upd_ne e]; exact h1, e1⟩
theorem Fr1.kp {H H' : Hp} {p C dx : Addr} {fs : List (Str × V)} {o : HO} (f : Fr1 p H H') (hp : H p = some (.ins C dx fs)) (h' : H' p = some o) : Kp H H' := fun b u h => by
  by_cases e : b = p
  · subst e
    rw [hp] at h
    cases h
    exact ⟨o, h', fun n => n.elim⟩
  · exact ⟨u, f b u h e, fun _ => rfl⟩
theorem _root_.L2.Same.kp {H H' : Hp} (f : Same H H') : Kp H H' := fun b o h => ⟨o, f b o h, fun _ => rfl⟩
theorem _root_.L2.Same.n {H H' : Hp} {q : Addr} {o : HO} (f : Same H H') (hq : H q = none) : Same H (upd H' q o) := fun b u h => by
  rw [upd_ne (ne_of_none h hq)]
  exact f b u h
/-- a field of an object under way -/
theorem st_any {K : PySem.W.Frag} {H : Hp} {p C dx : Addr} {fs : List (Str × V)} {f : Str} {v : V} (hp : H p = some (.ins C dx fs)) (c : Cls K C) (n : NoAttr K C f) (l : fs.length < 1000) : StIs K H f (.ref p) v (upd H p (.ins C dx (putF f v fs))) := ⟨p, C, dx, fs, rfl, hp, c, n, l, rfl⟩
def oV : Option Nat → V
  | none => .non
  | some n => .int n
theorem qb {Q : VK} {H : Hp} {a b : Bool} (k : Q (.bl a) H) (e : a = b) : Q (.bl b) H := e ▸ k
theorem qi {Q : VK} {H : Hp} {a b : Int} (k : Q (.int a) H) (e : a = b) : Q (.int b) H := e ▸ k
theorem qv {Q : VK} {H : Hp} {a b : V} (k : Q a H) (e : a = b) : Q b H := e ▸ k
theorem bdec {p q : Prop} [Decidable p] [Decidable q] (h : p ↔ q) : decide p = decide q := decide_eq_decide.mpr h
theorem rd_itNT {A B : Prop} (h : B) : if (!true) = true then A else B := iteF h
theorem rd_itNF {A B : Prop} (h : A) : if (!false) = true then A else B := iteT h
/-! ### the objects -/
section
variable (A : Adr) (dx : Addr)
abbrev OC (c : Ck) : HO := .ins A.aCrank dx (L_Crank (oV c.lt) (oV c.iv) (.int (c.ce : Nat)) (.int (c.pl : Nat)) (oV c.tu) (.bl c.cam))
abbrev OY (n : Nat) (x : Ks209.Coil) : HO := .ins A.aCylinder dx (L_Cylinder (.int (n : Nat)) (.int (Ks209.coilOut x.st : Nat)) (.int (x.on : Nat)) (.int (x.off : Nat)))
abbrev OM (e : Ks209.Here) : HO := .ins A.aMoment dx (L_Moment (.int (e.t : Nat)) (.int (e.p : Nat)) (.int (e.d : Nat)) (.int (e.span : Nat)))
abbrev OT (h : Ks209.How) (adv fuel : Nat) : HO := .ins A.aTiming dx (L_Timing (.int (h.dwell : Nat)) (.int (h.most : Nat)) (.int (adv : Nat)) (.int (fuel : Nat)))
abbrev OE (dwell most : Nat) (pa pf : Addr) (load : Nat) (cp lp : Addr) : HO := .ins A.aEngine dx (L_Engine (.int (dwell : Nat)) (.int (most : Nat)) (.ref pa) (.ref pf) (.int (load : Nat)) (.ref cp) (.ref lp))
end
end Et

set_option Elab.async false
set_option linter.all false
set_option maxRecDepth 100000
set_option maxHeartbeats 4000000
namespace Et
open PySem PySem.Spec PyProof.Rows L2
open PySem.W (Codec)
local macro_rules | `(tactic| walk_at "at") => `(tactic| first | assumption | exact upd_same | (refine (upd_ne (by assumption)).trans ?_; walk_at "at"))
local macro_rules | `(tactic| walk_at "rd") => `(tactic| repeat (first
  | with_reducible refine rd_seq ?_
  | with_reducible refine rd_ret ?_
  | with_reducible refine rd_retN ?_
  | with_reducible refine rd_drop ?_
  | with_reducible refine rd_asg ?_
  | with_reducible refine rd_name ?_
  | with_reducible refine rd_next ?_
  | with_reducible refine rd_if ?_
  | with_reducible refine rd_test ?_
  | with_reducible refine rd_tB ?_
  | with_reducible refine rd_and ?_
  | with_reducible refine rd_or ?_
  | with_reducible refine rd_not ?_
  | with_reducible refine rd_andV ?_
  | with_reducible refine rd_orV ?_
  | with_reducible refine rd_notV ?_
  | with_reducible refine rd_ifE ?_
  | with_reducible refine rd_op ?_
  | with_reducible refine rd_chain ?_
  | with_reducible refine rd_C ?_
  | ((with_reducible refine rd_varE ?_); refine ⟨_, rfl, ?_⟩)
  | with_reducible refine rd_rI0 ?_
  | with_reducible refine rd_eqI ?_
  | with_reducible refine rd_neI ?_
  | with_reducible refine rd_get ?_
  | with_reducible refine rd_put ?_
  | with_reducible refine rd_met ?_
  | with_reducible refine rd_cal ?_
  | with_reducible refine rd_mak ?_
  | with_reducible refine rd_cb ?_
  | with_reducible refine rd_nil ?_
  | with_reducible refine rd_cons ?_
  | with_reducible refine rd_lst ?_
  | with_reducible refine rd_tup ?_
  | with_reducible refine rd_sl ?_
  | with_reducible refine rd_part ?_
  | with_reducible refine rd_nopart ?_
  | with_reducible refine rd_bm ?_
  | with_reducible refine rd_bl ?_
  | with_reducible refine rd_blV ?_
  | with_reducible refine rd_intV ?_
  | with_reducible refine iteT ?_
  | with_reducible refine iteF ?_
  | with_reducible refine rd_itNT ?_
  | with_reducible refine rd_itNF ?_
  | with_reducible refine rd_for ?_
  | with_reducible refine rd_lcL ?_
  | with_reducible refine rd_lcR ?_
  | with_reducible refine rd_yes ?_
  | with_reducible refine rd_listT (SqL.of (by walk_at "at")) ?_
  | with_reducible refine rd_isNn ?_
  | with_reducible refine rd_isNi ?_
  | with_reducible refine rd_notNn ?_
  | with_reducible refine rd_notNi ?_
  | with_reducible refine rd_eqNi ?_
  | with_reducible refine rd_max2 ?_
  | with_reducible refine rd_min2 ?_
  | with_reducible refine rd_mulL (by decide) ?_
  | with_reducible refine rd_div (by decide) ?_
  | with_reducible refine rd_mod (by decide) ?_
  | with_reducible refine ⟨_, fld_Crank_last_time (by assumption) (by walk_at "at"), ?_⟩
  | with_reducible refine ⟨_, st_Crank_last_time (by assumption) (by walk_at "at"), ?_⟩
  | with_reducible refine ⟨_, fld_Crank_interval (by assumption) (by walk_at "at"), ?_⟩
  | with_reducible refine ⟨_, st_Crank_interval (by assumption) (by walk_at "at"), ?_⟩
  | with_reducible refine ⟨_, fld_Crank_certainty (by assumption) (by walk_at "at"), ?_⟩
  | with_reducible refine ⟨_, st_Crank_certainty (by assumption) (by walk_at "at"), ?_⟩
  | with_reducible refine ⟨_, fld_Crank_place (by assumption) (by walk_at "at"), ?_⟩
  | with_reducible refine ⟨_, st_Crank_place (by assumption) (by walk_at "at"), ?_⟩
  | with_reducible refine ⟨_, fld_Crank_turn (by assumption) (by walk_at "at"), ?_⟩
  | with_reducible refine ⟨_, st_Crank_turn (by assumption) (by walk_at "at"), ?_⟩
  | with_reducible refine ⟨_, fld_Crank_cam_told (by assumption) (by walk_at "at"), ?_⟩
  | with_reducible refine ⟨_, st_Crank_cam_told (by assumption) (by walk_at "at"), ?_⟩
  | with_reducible refine ⟨rc_Crank (by walk_at "at"), ?_⟩
  | with_reducible refine ⟨_, fld_Cylinder_number (by assumption) (by walk_at "at"), ?_⟩
  | with_reducible refine ⟨_, st_Cylinder_number (by assumption) (by walk_at "at"), ?_⟩
  | with_reducible refine ⟨_, fld_Cylinder_phase (by assumption) (by walk_at "at"), ?_⟩
  | with_reducible refine ⟨_, st_Cylinder_phase (by assumption) (by walk_at "at"), ?_⟩
  | with_reducible refine ⟨_, fld_Cylinder_went_on (by assumption) (by walk_at "at"), ?_⟩
  | with_reducible refine ⟨_, st_Cylinder_went_on (by assumption) (by walk_at "at"), ?_⟩
  | with_reducible refine ⟨_, fld_Cylinder_off (by assumption) (by walk_at "at"), ?_⟩
  | with_reducible refine ⟨_, st_Cylinder_off (by assumption) (by walk_at "at"), ?_⟩
  | with_reducible refine ⟨rc_Cylinder (by walk_at "at"), ?_⟩
  | with_reducible refine ⟨_, fld_Moment_now (by assumption) (by walk_at "at"), ?_⟩
  | with_reducible refine ⟨_, st_Moment_now (by assumption) (by walk_at "at"), ?_⟩
  | with_reducible refine ⟨_, fld_Moment_position (by assumption) (by walk_at "at"), ?_⟩
  | with_reducible refine ⟨_, st_Moment_position (by assumption) (by walk_at "at"), ?_⟩
  | with_reducible refine ⟨_, fld_Moment_pace (by assumption) (by walk_at "at"), ?_⟩
  | with_reducible refine ⟨_, st_Moment_pace (by assumption) (by walk_at "at"), ?_⟩
  | with_reducible refine ⟨_, fld_Moment_span (by assumption) (by walk_at "at"), ?_⟩
  | with_reducible refine ⟨_, st_Moment_span (by assumption) (by walk_at "at"), ?_⟩
  | with_reducible refine ⟨rc_Moment (by walk_at "at"), ?_⟩
  | with_reducible refine ⟨_, fld_Timing_dwell (by assumption) (by walk_at "at"), ?_⟩
  | with_reducible refine ⟨_, st_Timing_dwell (by assumption) (by walk_at "at"), ?_⟩
  | with_reducible refine ⟨_, fld_Timing_most (by assumption) (by walk_at "at"), ?_⟩
  | with_reducible refine ⟨_, st_Timing_most (by assumption) (by walk_at "at"), ?_⟩
  | with_reducible refine ⟨_, fld_Timing_advance (by assumption) (by walk_at "at"), ?_⟩
  | with_reducible refine ⟨_, st_Timing_advance (by assumption) (by walk_at "at"), ?_⟩
  | with_reducible refine ⟨_, fld_Timing_fuel (by assumption) (by walk_at "at"), ?_⟩
  | with_reducible refine ⟨_, st_Timing_fuel (by assumption) (by walk_at "at"), ?_⟩
  | with_reducible refine ⟨rc_Timing (by walk_at "at"), ?_⟩
  | with_reducible refine ⟨_, fld_Engine_dwell (by assumption) (by walk_at "at"), ?_⟩
  | with_reducible refine ⟨_, st_Engine_dwell (by assumption) (by walk_at "at"), ?_⟩
  | with_reducible refine ⟨_, fld_Engine_most (by assumption) (by walk_at "at"), ?_⟩
  | with_reducible refine ⟨_, st_Engine_most (by assumption) (by walk_at "at"), ?_⟩
  | with_reducible refine ⟨_, fld_Engine_advances (by assumption) (by walk_at "at"), ?_⟩
  | with_reducible refine ⟨_, st_Engine_advances (by assumption) (by walk_at "at"), ?_⟩
  | with_reducible refine ⟨_, fld_Engine_fuels (by assumption) (by walk_at "at"), ?_⟩
  | with_reducible refine ⟨_, st_Engine_fuels (by assumption) (by walk_at "at"), ?_⟩
  | with_reducible refine ⟨_, fld_Engine_load_now (by assumption) (by walk_at "at"), ?_⟩
  | with_reducible refine ⟨_, st_Engine_load_now (by assumption) (by walk_at "at"), ?_⟩
  | with_reducible refine ⟨_, fld_Engine_crank (by assumption) (by walk_at "at"), ?_⟩
  | with_reducible refine ⟨_, st_Engine_crank (by assumption) (by walk_at "at"), ?_⟩
  | with_reducible refine ⟨_, fld_Engine_cylinders (by assumption) (by walk_at "at"), ?_⟩
  | with_reducible refine ⟨_, st_Engine_cylinders (by assumption) (by walk_at "at"), ?_⟩
  | with_reducible refine ⟨rc_Engine (by walk_at "at"), ?_⟩
  ))

section
variable {P : Program} {w : World} {K : PySem.W.Frag} {mg : Str → Option Value} {base : Heap} {A : Adr} {zz : Addr}

/-! ### Crank -/
def sp_Crank___init__ (K : PySem.W.Frag) (A : Adr) : Sp := fun vs H Q _ => ∃ (p dx : Addr), vs = [.ref p] ∧ H p = some (.ins A.aCrank dx []) ∧ ∀ H' : Hp, H' p = some (OC A dx Ck.new) → Fr1 p H H' → Q .non H'
theorem ok_Crank___init__ (T : Txt K mg A) : FnOk P w K mg base CX0 1 A.f_Crank___init__ A.d_Crank___init__ ["self"] (sp_Crank___init__ K A) := by
  refine T.m_Crank___init__.fn.ok sc_Crank___init__ (fun vs H Q E h => ?_) (fun cdv A0 outer s H vs Q E hr h => ?_)
  · obtain ⟨p, dx, rfl, _⟩ := h
    rfl
  obtain ⟨p, dx, rfl, h⟩ := h
  refine ⟨_, (pss_cons (ps_fld (pv 0) pe_non rfl)
      (pss_cons (ps_fld (pv 0) pe_non rfl)
      (pss_cons (ps_fld (pv 0) (pgi T.g_UNKNOWN) rfl)
      (pss_cons (ps_fld (pv 0) pe_int rfl)
      (pss_cons (ps_fld (pv 0) pe_non rfl)
      (pss_one (ps_fld (pv 0) pe_bl rfl))))))), ?_⟩
  try dsimp only [cxK]
  obtain ⟨hp, k⟩ := h
  walk_at "rd"
  refine ⟨_, st_any hp T.cls_Crank T.n_Crank_last_time (Nat.le_of_ble_eq_true rfl), ?_⟩
  walk_at "rd"
  refine ⟨_, st_any upd_same T.cls_Crank T.n_Crank_interval (Nat.le_of_ble_eq_true rfl), ?_⟩
  walk_at "rd"
  refine ⟨_, st_any upd_same T.cls_Crank T.n_Crank_certainty (Nat.le_of_ble_eq_true rfl), ?_⟩
  walk_at "rd"
  refine ⟨_, st_any upd_same T.cls_Crank T.n_Crank_place (Nat.le_of_ble_eq_true rfl), ?_⟩
  walk_at "rd"
  refine ⟨_, st_any upd_same T.cls_Crank T.n_Crank_turn (Nat.le_of_ble_eq_true rfl), ?_⟩
  walk_at "rd"
  refine ⟨_, st_any upd_same T.cls_Crank T.n_Crank_cam_told (Nat.le_of_ble_eq_true rfl), ?_⟩
  exact k _ (by rw [init_Crank]; exact upd_same) (Fr1.refl.u.u.u.u.u.u)
def sp_Crank_comes_behind (K : PySem.W.Frag) (A : Adr) : Sp := fun vs H Q _ => ∃ (p dx : Addr) (c : Ck) (t : Nat), vs = [.ref p, .int (t : Nat)] ∧ H p = some (OC A dx c) ∧ Q (.bl (c.behind t)) H
theorem ok_Crank_comes_behind (T : Txt K mg A) : FnOk P w K mg base CX0 1 A.f_Crank_comes_behind A.d_Crank_comes_behind ["self", "t"] (sp_Crank_comes_behind K A) := by
  refine T.m_Crank_comes_behind.fn.ok sc_Crank_comes_behind (fun vs H Q E h => ?_) (fun cdv A0 outer s H vs Q E hr h => ?_)
  · obtain ⟨p, dx, c, t, rfl, _⟩ := h
    rfl
  obtain ⟨p, dx, c, t, rfl, h⟩ := h
  refine ⟨_, (pss_one (ps_ret (pe_or (pe_cmpR opIsN (pe_fld (pv 0) rfl) pe_non (nomark _)) (pe_one (pe_cmpR op_gt (pv 1) (pe_fld (pv 0) rfl) (nomark _)))))), ?_⟩
  try dsimp only [cxK]
  obtain ⟨hp, k⟩ := h
  obtain ⟨lt, iv, ce, pl, tu, cam⟩ := c
  cases lt with
  | none =>
    dsimp only [OC, oV] at hp
    walk_at "rd"
    exact k
  | some l =>
    dsimp only [OC, oV] at hp
    walk_at "rd"
    exact qb k (show decide (l < t) = decide ((l : Int) < (t : Int)) from bdec (by omega))
def sp_Crank_stands_still (K : PySem.W.Frag) (A : Adr) : Sp := fun vs H Q _ => ∃ (p dx : Addr) (c : Ck) (t : Nat), vs = [.ref p, .int (t : Nat)] ∧ H p = some (OC A dx c) ∧ Q (.bl (c.still t)) H
theorem ok_Crank_stands_still (T : Txt K mg A) : FnOk P w K mg base CX0 1 A.f_Crank_stands_still A.d_Crank_stands_still ["self", "t"] (sp_Crank_stands_still K A) := by
  refine T.m_Crank_stands_still.fn.ok sc_Crank_stands_still (fun vs H Q E h => ?_) (fun cdv A0 outer s H vs Q E hr h => ?_)
  · obtain ⟨p, dx, c, t, rfl, _⟩ := h
    rfl
  obtain ⟨p, dx, c, t, rfl, h⟩ := h
  refine ⟨_, (pss_one (ps_ret (pe_and (pe_cmpR opNotN (pe_fld (pv 0) rfl) pe_non (nomark _)) (pe_one (pe_cmpR op_gt (pe_op op_sub (pv 1) (pe_fld (pv 0) rfl)) (pgi T.g_LONGEST_INTERVAL) (nomark _)))))), ?_⟩
  try dsimp only [cxK]
  obtain ⟨hp, k⟩ := h
  obtain ⟨lt, iv, ce, pl, tu, cam⟩ := c
  cases lt with
  | none =>
    dsimp only [OC, oV] at hp
    walk_at "rd"
    exact k
  | some l =>
    dsimp only [OC, oV] at hp
    walk_at "rd"
    exact qb k (show decide (1048576 < t - l) = decide ((1048576 : Int) < (t : Int) - (l : Int)) from bdec (by omega))
def sp_Crank_interval_at (K : PySem.W.Frag) (A : Adr) : Sp := fun vs H Q _ => ∃ (p dx : Addr) (c : Ck) (t : Nat), vs = [.ref p, .int (t : Nat)] ∧ H p = some (OC A dx c) ∧ (∀ l, c.lt = some l → l ≤ t) ∧ Q (oV (c.ivAt t)) H
theorem ok_Crank_interval_at (T : Txt K mg A) : FnOk P w K mg base CX0 2 A.f_Crank_interval_at A.d_Crank_interval_at ["self", "t"] (sp_Crank_interval_at K A) := by
  refine T.m_Crank_interval_at.fn.ok sc_Crank_interval_at (fun vs H Q E h => ?_) (fun cdv A0 outer s H vs Q E hr h => ?_)
  · obtain ⟨p, dx, c, t, rfl, _⟩ := h
    rfl
  obtain ⟨p, dx, c, t, rfl, h⟩ := h
  refine ⟨_, (pss_cons (ps_if (pw_or (pt_cmpR opIsN (pe_fld (pv 0) rfl) pe_non (nomark _)) (pw_or1 (pt_val (pe_meth (pv 0) T.cls_Crank T.m_Crank_stands_still.mt (ok_Crank_stands_still T) (hr.mono (by decide)) T.m_Crank_stands_still.bd .nil pass0 (pa_cons (pv 1) pa_nil))))).pt (pss_one (ps_ret pe_non)) pss_nil)
      (pss_one (ps_ret (pe_op op_sub (pv 1) (pe_fld (pv 0) rfl))))), ?_⟩
  try dsimp only [cxK]
  obtain ⟨hp, hl, k⟩ := h
  obtain ⟨lt, iv, ce, pl, tu, cam⟩ := c
  cases lt with
  | none =>
    dsimp only [OC, oV] at hp
    walk_at "rd"
    exact k
  | some l =>
    dsimp only [OC, oV] at hp
    walk_at "rd"
    refine ⟨p, dx, ⟨some l, iv, ce, pl, tu, cam⟩, t, rfl, hp, ?_⟩
    walk_at "rd"
    have hl' : l ≤ t := hl l rfl
    refine rd_ite (fun e => ?_) (fun e => ?_)
    · have e : decide (1048576 < t - l) = true := e
      walk_at "rd"
      refine qv k ?_
      show oV (if 1048576 < t - l then none else some (t - l)) = .non
      rw [if_pos (of_decide_eq_true e)]
      rfl
    · have e : decide (1048576 < t - l) = false := e
      walk_at "rd"
      refine qv k ?_
      show oV (if 1048576 < t - l then none else some (t - l)) = .int ((t : Int) - (l : Int))
      rw [if_neg (of_decide_eq_false e)]
      show V.int ((t - l : Nat) : Int) = _
      rw [Int.ofNat_sub hl']
def sp_Crank_is_gap (K : PySem.W.Frag) (A : Adr) : Sp := fun vs H Q _ => ∃ (p dx : Addr) (c : Ck) (n : Option Nat), vs = [.ref p, oV n] ∧ H p = some (OC A dx c) ∧ Q (.bl (c.gap n)) H
theorem ok_Crank_is_gap (T : Txt K mg A) : FnOk P w K mg base CX0 1 A.f_Crank_is_gap A.d_Crank_is_gap ["self", "interval"] (sp_Crank_is_gap K A) := by
  refine T.m_Crank_is_gap.fn.ok sc_Crank_is_gap (fun vs H Q E h => ?_) (fun cdv A0 outer s H vs Q E hr h => ?_)
  · obtain ⟨p, dx, c, n, rfl, _⟩ := h
    rfl
  obtain ⟨p, dx, c, n, rfl, h⟩ := h
  refine ⟨_, (pss_cons (ps_if (pw_or (pt_cmpR opIsN (pv 1) pe_non (nomark _)) (pw_or1 (pt_cmpR opIsN (pe_fld (pv 0) rfl) pe_non (nomark _)))).pt (pss_one (ps_ret pe_bl)) pss_nil)
      (pss_one (ps_ret (pe_cmpR op_gt (pe_op op_mul pe_int (pv 1)) (pe_op op_mul pe_int (pe_fld (pv 0) rfl)) (nomark _))))), ?_⟩
  try dsimp only [cxK]
  obtain ⟨hp, k⟩ := h
  obtain ⟨lt, iv, ce, pl, tu, cam⟩ := c
  cases n with
  | none =>
    dsimp only [oV]
    walk_at "rd"
    exact k
  | some n =>
    cases iv with
    | none =>
      dsimp only [OC, oV] at hp ⊢
      walk_at "rd"
      exact k
    | some e =>
      dsimp only [OC, oV] at hp ⊢
      walk_at "rd"
      exact qb k (show decide (27 * e < 20 * n) = decide ((27 : Int) * (e : Int) < 20 * (n : Int)) from bdec (by omega))
def sp_Crank_move (K : PySem.W.Frag) (A : Adr) : Sp := fun vs H Q _ => ∃ (p dx : Addr) (c : Ck) (g : Bool), vs = [.ref p, .bl g] ∧ H p = some (OC A dx c) ∧ ∀ H' : Hp, H' p = some (OC A dx (c.move g)) → Fr1 p H H' → Q .non H'
theorem nd_t {p : Prop} [Decidable p] (h : (!decide p) = true) : ¬ p := by
  intro q
  rw [decide_eq_true q] at h
  cases h
theorem nd_f {p : Prop} [Decidable p] (h : (!decide p) = false) : p := by
  by_cases q : p
  · exact q
  · rw [decide_eq_false q] at h
    cases h
theorem last_yes {c : Ck} (h1 : ¬ c.ce = 0) (h2 : c.pl = 34) : c.last = true := by
  unfold Ck.last
  rw [decide_eq_true (show c.ce ≠ 0 from h1), decide_eq_true h2]
  rfl
theorem last_no {c : Ck} (h : c.ce = 0 ∨ ¬ c.pl = 34) : c.last = false := by
  unfold Ck.last
  rcases h with h | h
  · rw [decide_eq_false (show ¬ c.ce ≠ 0 from fun q => q h), Bool.false_and]
  · rw [decide_eq_false h, Bool.and_false]
theorem move_t {c : Ck} {b : Bool} (h : c.last = b) : c.move true = { c with ce := if b = true then 2 else 1, pl := 0 } := by
  unfold Ck.move
  rw [if_pos rfl, h]
theorem move_n {c : Ck} (h : c.iv = none ∨ c.last = true) : c.move false = { c with ce := 0 } := by
  unfold Ck.move
  rw [if_neg (by decide), if_pos h]
theorem move_s {c : Ck} (h : ¬ c.iv = none) (h' : c.last = false) (h1 : ¬ c.ce = 0) : c.move false = { c with pl := c.pl + 1 } := by
  unfold Ck.move
  rw [if_neg (by decide), if_neg (by rw [h']; intro q; rcases q with q | q; exact h q; cases q), if_pos h1]
theorem move_z {c : Ck} (h : ¬ c.iv = none) (h1 : c.ce = 0) : c.move false = c := by
  unfold Ck.move
  rw [if_neg (by decide), if_neg (by rw [last_no (.inl h1)]; intro q; rcases q with q | q; exact h q; cases q), if_neg (fun q => q h1)]
theorem ok_Crank_move (T : Txt K mg A) : FnOk P w K mg base CX0 1 A.f_Crank_move A.d_Crank_move ["self", "gap"] (sp_Crank_move K A) := by
  refine T.m_Crank_move.fn.ok sc_Crank_move (fun vs H Q E h => ?_) (fun cdv A0 outer s H vs Q E hr h => ?_)
  · obtain ⟨p, dx, c, g, rfl, _⟩ := h
    rfl
  obtain ⟨p, dx, c, g, rfl, h⟩ := h
  refine ⟨_, (pss_cons (ps_set (i := 2) sc_Crank_move.nd rfl (Or.inl rfl) (pe_and (pe_cmpR op_ne (pe_fld (pv 0) rfl) (pgi T.g_UNKNOWN) (nomark _)) (pe_one (pe_cmpR op_eq (pe_fld (pv 0) rfl) (pgi T.g_LAST_TOOTH) (nomark _)))))
      (pss_one (ps_if (pt_val (pv 1)) (pss_cons (ps_fld (pv 0) (pe_ifExp (pt_val (pv 2)) (pgi T.g_SURELY) (pgi T.g_PERHAPS)) rfl)
      (pss_one (ps_fld (pv 0) pe_int rfl))) (pss_one (ps_if (pw_or (pt_cmpR opIsN (pe_fld (pv 0) rfl) pe_non (nomark _)) (pw_or1 (pt_val (pv 2)))).pt (pss_one (ps_fld (pv 0) (pgi T.g_UNKNOWN) rfl)) (pss_one (ps_if (pt_cmpR op_ne (pe_fld (pv 0) rfl) (pgi T.g_UNKNOWN) (nomark _)) (pss_one (ps_fldaug (pv 0) pe_int in_add)) pss_nil))))))), ?_⟩
  try dsimp only [cxK]
  obtain ⟨hp, k⟩ := h
  cases g with
  | true =>
    walk_at "rd"
    refine rd_ite (fun e1 => ?_) (fun e1 => ?_)
    · have e1 : ¬ c.ce = 0 := fun q => nd_t e1 (by omega)
      walk_at "rd"
      refine rd_ite (fun e2 => ?_) (fun e2 => ?_)
      · have e2 := of_decide_eq_true e2
        rw [move_t (last_yes e1 (by omega))] at k
        walk_at "rd"
        exact k _ upd_same Fr1.refl.u.u
      · have e2 := of_decide_eq_false e2
        rw [move_t (last_no (.inr (by omega)))] at k
        walk_at "rd"
        exact k _ upd_same Fr1.refl.u.u
    · have e1 := nd_f e1
      rw [move_t (last_no (.inl (by omega)))] at k
      walk_at "rd"
      exact k _ upd_same Fr1.refl.u.u
  | false =>
    obtain ⟨lt, iv, ce, pl, tu, cam⟩ := c
    cases iv with
    | none =>
      rw [move_n (.inl rfl)] at k
      dsimp only [OC, oV] at hp
      walk_at "rd"
      refine rd_ite (fun e1 => ?_) (fun e1 => ?_)
      · walk_at "rd"
        exact k _ upd_same Fr1.refl.u
      · walk_at "rd"
        exact k _ upd_same Fr1.refl.u
    | some n =>
      dsimp only [OC, oV] at hp
      walk_at "rd"
      refine rd_ite (fun e1 => ?_) (fun e1 => ?_)
      · have e1 : ¬ ce = 0 := fun q => nd_t e1 (by omega)
        walk_at "rd"
        refine rd_ite (fun e2 => ?_) (fun e2 => ?_)
        · have e2 := of_decide_eq_true e2
          rw [move_n (.inr (last_yes e1 (by show pl = 34; omega)))] at k
          walk_at "rd"
          exact k _ upd_same Fr1.refl.u
        · have e2 := of_decide_eq_false e2
          rw [move_s (by intro q; cases q) (last_no (.inr (by show ¬ pl = 34; omega))) e1] at k
          walk_at "rd"
          refine rd_ite (fun e3 => ?_) (fun e3 => absurd (nd_f e3) (by omega))
          refine ⟨_, rfl, p, _, dx, _, _, rfl, hp, T.cls_Crank, T.n_Crank_place, lk_Crank_place, _, _, rfl, rfl, dx, _, hp, (by show 6 < 1000; decide), ?_⟩
          exact k _ (by rw [upd_same, pu_Crank_place]; rfl) Fr1.refl.u
      · have e1 := nd_f e1
        rw [move_z (by intro q; cases q) (by show ce = 0; omega)] at k
        walk_at "rd"
        refine rd_ite (fun e3 => absurd e1 (nd_t e3)) (fun e3 => ?_)
        walk_at "rd"
        exact k _ hp Fr1.refl
def sp_Crank_turn_begun (K : PySem.W.Frag) (A : Adr) : Sp := fun vs H Q _ => ∃ (p dx : Addr) (c : Ck), vs = [.ref p] ∧ H p = some (OC A dx c) ∧ Q (oV c.begun) H
theorem ok_Crank_turn_begun (T : Txt K mg A) : FnOk P w K mg base CX0 1 A.f_Crank_turn_begun A.d_Crank_turn_begun ["self"] (sp_Crank_turn_begun K A) := by
  refine T.m_Crank_turn_begun.fn.ok sc_Crank_turn_begun (fun vs H Q E h => ?_) (fun cdv A0 outer s H vs Q E hr h => ?_)
  · obtain ⟨p, dx, c, rfl, _⟩ := h
    rfl
  obtain ⟨p, dx, c, rfl, h⟩ := h
  refine ⟨_, (pss_cons (ps_if (pt_val (pe_fld (pv 0) rfl)) (pss_one (ps_ret pe_int)) pss_nil)
      (pss_one (ps_ret (pe_ifExp (pt_cmpR op_eq (pe_fld (pv 0) rfl) pe_int (nomark _)) pe_int pe_non)))), ?_⟩
  try dsimp only [cxK]
  obtain ⟨hp, k⟩ := h
  obtain ⟨lt, iv, ce, pl, tu, cam⟩ := c
  cases cam with
  | true =>
    dsimp only [OC] at hp
    walk_at "rd"
    exact k
  | false =>
    cases tu with
    | none =>
      dsimp only [OC, oV] at hp
      walk_at "rd"
      exact k
    | some r =>
      dsimp only [OC, oV] at hp
      walk_at "rd"
      refine rd_ite (fun e => ?_) (fun e => ?_)
      · have e : r = 0 := by
          have := of_decide_eq_true e
          omega
        subst e
        walk_at "rd"
        exact k
      · have e : ¬ some r = some 0 := fun q => by
          cases q
          exact absurd e (by decide)
        walk_at "rd"
        refine qv k ?_
        show oV (if some r = some 0 then some 1 else none) = .non
        rw [if_neg e]
        rfl
def sp_Crank_tell_cam (K : PySem.W.Frag) (A : Adr) : Sp := fun vs H Q _ => ∃ (p dx : Addr) (c : Ck), vs = [.ref p] ∧ H p = some (OC A dx c) ∧ ∀ H' : Hp, H' p = some (OC A dx { c with cam := true }) → Fr1 p H H' → Q .non H'
theorem ok_Crank_tell_cam (T : Txt K mg A) : FnOk P w K mg base CX0 1 A.f_Crank_tell_cam A.d_Crank_tell_cam ["self"] (sp_Crank_tell_cam K A) := by
  refine T.m_Crank_tell_cam.fn.ok sc_Crank_tell_cam (fun vs H Q E h => ?_) (fun cdv A0 outer s H vs Q E hr h => ?_)
  · obtain ⟨p, dx, c, rfl, _⟩ := h
    rfl
  obtain ⟨p, dx, c, rfl, h⟩ := h
  refine ⟨_, (pss_one (ps_fld (pv 0) pe_bl rfl)), ?_⟩
  try dsimp only [cxK]
  obtain ⟨hp, k⟩ := h
  obtain ⟨lt, iv, ce, pl, tu, cam⟩ := c
  dsimp only [OC] at hp
  walk_at "rd"
  exact k _ upd_same Fr1.refl.u
def sp_Crank_is_sure (K : PySem.W.Frag) (A : Adr) : Sp := fun vs H Q _ => ∃ (p dx : Addr) (c : Ck), vs = [.ref p] ∧ H p = some (OC A dx c) ∧ Q (.bl (decide (c.ce = 2))) H
theorem ok_Crank_is_sure (T : Txt K mg A) : FnOk P w K mg base CX0 1 A.f_Crank_is_sure A.d_Crank_is_sure ["self"] (sp_Crank_is_sure K A) := by
  refine T.m_Crank_is_sure.fn.ok sc_Crank_is_sure (fun vs H Q E h => ?_) (fun cdv A0 outer s H vs Q E hr h => ?_)
  · obtain ⟨p, dx, c, rfl, _⟩ := h
    rfl
  obtain ⟨p, dx, c, rfl, h⟩ := h
  refine ⟨_, (pss_one (ps_ret (pe_cmpR op_eq (pe_fld (pv 0) rfl) (pgi T.g_SURELY) (nomark _)))), ?_⟩
  try dsimp only [cxK]
  obtain ⟨hp, k⟩ := h
  obtain ⟨lt, iv, ce, pl, tu, cam⟩ := c
  dsimp only [OC] at hp
  walk_at "rd"
  exact qb k (show decide (ce = 2) = decide ((ce : Int) = 2) from bdec (by omega))
def sp_Crank_is_known (K : PySem.W.Frag) (A : Adr) : Sp := fun vs H Q _ => ∃ (p dx : Addr) (c : Ck), vs = [.ref p] ∧ H p = some (OC A dx c) ∧ Q (.bl c.known) H
theorem ok_Crank_is_known (T : Txt K mg A) : FnOk P w K mg base CX0 2 A.f_Crank_is_known A.d_Crank_is_known ["self"] (sp_Crank_is_known K A) := by
  refine T.m_Crank_is_known.fn.ok sc_Crank_is_known (fun vs H Q E h => ?_) (fun cdv A0 outer s H vs Q E hr h => ?_)
  · obtain ⟨p, dx, c, rfl, _⟩ := h
    rfl
  obtain ⟨p, dx, c, rfl, h⟩ := h
  refine ⟨_, (pss_one (ps_ret (pe_and (pe_meth0 (pv 0) T.cls_Crank T.m_Crank_is_sure.mt (ok_Crank_is_sure T) (hr.mono (by decide)) T.m_Crank_is_sure.bd .nil pass0) (pe_one (pe_cmpR opNotN (pe_fld (pv 0) rfl) pe_non (nomark _)))))), ?_⟩
  try dsimp only [cxK]
  obtain ⟨hp, k⟩ := h
  walk_at "rd"
  refine ⟨p, dx, c, rfl, hp, ?_⟩
  obtain ⟨lt, iv, ce, pl, tu, cam⟩ := c
  walk_at "rd"
  refine rd_ite (fun e => ?_) (fun e => ?_)
  · have e : decide (ce = 2) = true := e
    cases tu with
    | none =>
      dsimp only [OC, oV] at hp
      walk_at "rd"
      refine qb k ?_
      show (decide (ce = 2) && false) = false
      rw [Bool.and_false]
    | some r =>
      dsimp only [OC, oV] at hp
      walk_at "rd"
      refine qb k ?_
      show (decide (ce = 2) && true) = true
      rw [e]
      rfl
  · have e : decide (ce = 2) = false := e
    refine qb k ?_
    show (decide (ce = 2) && tu.isSome) = false
    rw [e]
    rfl
def sp_Crank_settle_turn (K : PySem.W.Frag) (A : Adr) : Sp := fun vs H Q _ => ∃ (p dx : Addr) (c : Ck), vs = [.ref p] ∧ H p = some (OC A dx c) ∧ ∀ H' : Hp, H' p = some (OC A dx c.settle) → Fr1 p H H' → Q .non H'
theorem ok_Crank_settle_turn (T : Txt K mg A) : FnOk P w K mg base CX0 2 A.f_Crank_settle_turn A.d_Crank_settle_turn ["self"] (sp_Crank_settle_turn K A) := by
  refine T.m_Crank_settle_turn.fn.ok sc_Crank_settle_turn (fun vs H Q E h => ?_) (fun cdv A0 outer s H vs Q E hr h => ?_)
  · obtain ⟨p, dx, c, rfl, _⟩ := h
    rfl
  obtain ⟨p, dx, c, rfl, h⟩ := h
  refine ⟨_, (pss_cons (ps_if (pt_not (pt_val (pe_meth0 (pv 0) T.cls_Crank T.m_Crank_is_sure.mt (ok_Crank_is_sure T) (hr.mono (by decide)) T.m_Crank_is_sure.bd .nil pass0))) (pss_one (ps_fld (pv 0) pe_non rfl)) (pss_one (ps_if (pt_cmpR op_eq (pe_fld (pv 0) rfl) pe_int (nomark _)) (pss_one (ps_fld (pv 0) (pe_meth0 (pv 0) T.cls_Crank T.m_Crank_turn_begun.mt (ok_Crank_turn_begun T) (hr.mono (by decide)) T.m_Crank_turn_begun.bd .nil pass0) rfl)) (pss_one ps_retN))))
      (pss_one (ps_fld (pv 0) pe_bl rfl))), ?_⟩
  try dsimp only [cxK]
  obtain ⟨hp, k⟩ := h
  walk_at "rd"
  refine ⟨p, dx, c, rfl, hp, ?_⟩
  walk_at "rd"
  refine rd_ite (fun e => ?_) (fun e => ?_)
  · have e : ¬ c.ce = 2 := of_decide_eq_false (by cases q : decide (c.ce = 2) with | true => (rw [q] at e; cases e) | false => rfl)
    have q : c.settle = { c with tu := none, cam := false } := by
      unfold Ck.settle
      rw [if_pos e]
    rw [q] at k
    walk_at "rd"
    exact k _ upd_same Fr1.refl.u.u
  · have e : c.ce = 2 := of_decide_eq_true (by cases q : decide (c.ce = 2) with | true => rfl | false => (rw [q] at e; cases e))
    walk_at "rd"
    refine rd_ite (fun e2 => ?_) (fun e2 => ?_)
    · have e2 : c.pl = 0 := by
        have := of_decide_eq_true e2
        omega
      have q : c.settle = { c with tu := c.begun, cam := false } := by
        unfold Ck.settle
        rw [if_neg (by omega), if_pos e2]
      rw [q] at k
      walk_at "rd"
      refine ⟨p, dx, c, rfl, hp, ?_⟩
      walk_at "rd"
      exact k _ upd_same Fr1.refl.u.u
    · have e2 : ¬ c.pl = 0 := by
        have := of_decide_eq_false e2
        omega
      have q : c.settle = c := by
        unfold Ck.settle
        rw [if_neg (by omega), if_neg e2]
      rw [q] at k
      walk_at "rd"
      exact k _ hp Fr1.refl
def sp_Crank_pass_tooth (K : PySem.W.Frag) (A : Adr) : Sp := fun vs H Q _ => ∃ (p dx : Addr) (c : Ck) (t : Nat), vs = [.ref p, .int (t : Nat)] ∧ H p = some (OC A dx c) ∧ (∀ l, c.lt = some l → l ≤ t) ∧ ∀ H' : Hp, H' p = some (OC A dx (c.pass t)) → Fr1 p H H' → Q .non H'
theorem ok_Crank_pass_tooth (T : Txt K mg A) : FnOk P w K mg base CX0 3 A.f_Crank_pass_tooth A.d_Crank_pass_tooth ["self", "t"] (sp_Crank_pass_tooth K A) := by
  refine T.m_Crank_pass_tooth.fn.ok sc_Crank_pass_tooth (fun vs H Q E h => ?_) (fun cdv A0 outer s H vs Q E hr h => ?_)
  · obtain ⟨p, dx, c, t, rfl, _⟩ := h
    rfl
  obtain ⟨p, dx, c, t, rfl, h⟩ := h
  refine ⟨_, (pss_cons (ps_set (i := 2) sc_Crank_pass_tooth.nd rfl (Or.inl rfl) (pe_meth (pv 0) T.cls_Crank T.m_Crank_interval_at.mt (ok_Crank_interval_at T) (hr.mono (by decide)) T.m_Crank_interval_at.bd .nil pass0 (pa_cons (pv 1) pa_nil)))
      (pss_cons (ps_set (i := 3) sc_Crank_pass_tooth.nd rfl (Or.inl rfl) (pe_meth (pv 0) T.cls_Crank T.m_Crank_is_gap.mt (ok_Crank_is_gap T) (hr.mono (by decide)) T.m_Crank_is_gap.bd .nil pass0 (pa_cons (pv 2) pa_nil)))
      (pss_cons (ps_fld (pv 0) (pv 1) rfl)
      (pss_cons (ps_fld (pv 0) (pv 2) rfl)
      (pss_cons (ps_expr (pe_meth (pv 0) T.cls_Crank T.m_Crank_move.mt (ok_Crank_move T) (hr.mono (by decide)) T.m_Crank_move.bd .nil pass0 (pa_cons (pv 3) pa_nil)))
      (pss_one (ps_expr (pe_meth0 (pv 0) T.cls_Crank T.m_Crank_settle_turn.mt (ok_Crank_settle_turn T) (hr.mono (by decide)) T.m_Crank_settle_turn.bd .nil pass0)))))))), ?_⟩
  try dsimp only [cxK]
  obtain ⟨hp, hl, k⟩ := h
  walk_at "rd"
  refine ⟨p, dx, c, t, rfl, hp, hl, ?_⟩
  walk_at "rd"
  refine ⟨p, dx, c, c.ivAt t, rfl, hp, ?_⟩
  walk_at "rd"
  refine ⟨p, dx, { c with lt := some t, iv := c.ivAt t }, c.gap (c.ivAt t), rfl, upd_same, fun H1 h1 f1 => ?_⟩
  walk_at "rd"
  refine ⟨p, dx, _, rfl, h1, fun H2 h2 f2 => ?_⟩
  walk_at "rd"
  exact k _ h2 ((Fr1.refl.u.u.trans f1).trans f2)
end
end Et

set_option Elab.async false
set_option linter.all false
set_option maxRecDepth 100000
set_option maxHeartbeats 4000000
namespace Et
open PySem PySem.Spec PyProof.Rows L2
open PySem.W (Codec)
local macro_rules | `(tactic| walk_at "at") => `(tactic| first | assumption | exact upd_same | (refine (upd_ne (by assumption)).trans ?_; walk_at "at"))
local macro_rules | `(tactic| walk_at "rd") => `(tactic| repeat (first
  | with_reducible refine rd_seq ?_
  | with_reducible refine rd_ret ?_
  | with_reducible refine rd_retN ?_
  | with_reducible refine rd_drop ?_
  | with_reducible refine rd_asg ?_
  | with_reducible refine rd_name ?_
  | with_reducible refine rd_next ?_
  | with_reducible refine rd_if ?_
  | with_reducible refine rd_test ?_
  | with_reducible refine rd_tB ?_
  | with_reducible refine rd_and ?_
  | with_reducible refine rd_or ?_
  | with_reducible refine rd_not ?_
  | with_reducible refine rd_andV ?_
  | with_reducible refine rd_orV ?_
  | with_reducible refine rd_notV ?_
  | with_reducible refine rd_ifE ?_
  | with_reducible refine rd_op ?_
  | with_reducible refine rd_chain ?_
  | with_reducible refine rd_C ?_
  | ((with_reducible refine rd_varE ?_); refine ⟨_, rfl, ?_⟩)
  | with_reducible refine rd_rI0 ?_
  | with_reducible refine rd_eqI ?_
  | with_reducible refine rd_neI ?_
  | with_reducible refine rd_get ?_
  | with_reducible refine rd_put ?_
  | with_reducible refine rd_met ?_
  | with_reducible refine rd_cal ?_
  | with_reducible refine rd_mak ?_
  | with_reducible refine rd_cb ?_
  | with_reducible refine rd_nil ?_
  | with_reducible refine rd_cons ?_
  | with_reducible refine rd_lst ?_
  | with_reducible refine rd_tup ?_
  | with_reducible refine rd_sl ?_
  | with_reducible refine rd_part ?_
  | with_reducible refine rd_nopart ?_
  | with_reducible refine rd_bm ?_
  | with_reducible refine rd_bl ?_
  | with_reducible refine rd_blV ?_
  | with_reducible refine rd_intV ?_
  | with_reducible refine iteT ?_
  | with_reducible refine iteF ?_
  | with_reducible refine rd_itNT ?_
  | with_reducible refine rd_itNF ?_
  | with_reducible refine rd_for ?_
  | with_reducible refine rd_lcL ?_
  | with_reducible refine rd_lcR ?_
  | with_reducible refine rd_yes ?_
  | with_reducible refine rd_listT (SqL.of (by walk_at "at")) ?_
  | with_reducible refine rd_isNn ?_
  | with_reducible refine rd_isNi ?_
  | with_reducible refine rd_notNn ?_
  | with_reducible refine rd_notNi ?_
  | with_reducible refine rd_eqNi ?_
  | with_reducible refine rd_max2 ?_
  | with_reducible refine rd_min2 ?_
  | with_reducible refine rd_mulL (by decide) ?_
  | with_reducible refine rd_div (by decide) ?_
  | with_reducible refine rd_mod (by decide) ?_
  | with_reducible refine ⟨_, fld_Crank_last_time (by assumption) (by walk_at "at"), ?_⟩
  | with_reducible refine ⟨_, st_Crank_last_time (by assumption) (by walk_at "at"), ?_⟩
  | with_reducible refine ⟨_, fld_Crank_interval (by assumption) (by walk_at "at"), ?_⟩
  | with_reducible refine ⟨_, st_Crank_interval (by assumption) (by walk_at "at"), ?_⟩
  | with_reducible refine ⟨_, fld_Crank_certainty (by assumption) (by walk_at "at"), ?_⟩
  | with_reducible refine ⟨_, st_Crank_certainty (by assumption) (by walk_at "at"), ?_⟩
  | with_reducible refine ⟨_, fld_Crank_place (by assumption) (by walk_at "at"), ?_⟩
  | with_reducible refine ⟨_, st_Crank_place (by assumption) (by walk_at "at"), ?_⟩
  | with_reducible refine ⟨_, fld_Crank_turn (by assumption) (by walk_at "at"), ?_⟩
  | with_reducible refine ⟨_, st_Crank_turn (by assumption) (by walk_at "at"), ?_⟩
  | with_reducible refine ⟨_, fld_Crank_cam_told (by assumption) (by walk_at "at"), ?_⟩
  | with_reducible refine ⟨_, st_Crank_cam_told (by assumption) (by walk_at "at"), ?_⟩
  | with_reducible refine ⟨rc_Crank (by walk_at "at"), ?_⟩
  | with_reducible refine ⟨_, fld_Cylinder_number (by assumption) (by walk_at "at"), ?_⟩
  | with_reducible refine ⟨_, st_Cylinder_number (by assumption) (by walk_at "at"), ?_⟩
  | with_reducible refine ⟨_, fld_Cylinder_phase (by assumption) (by walk_at "at"), ?_⟩
  | with_reducible refine ⟨_, st_Cylinder_phase (by assumption) (by walk_at "at"), ?_⟩
  | with_reducible refine ⟨_, fld_Cylinder_went_on (by assumption) (by walk_at "at"), ?_⟩
  | with_reducible refine ⟨_, st_Cylinder_went_on (by assumption) (by walk_at "at"), ?_⟩
  | with_reducible refine ⟨_, fld_Cylinder_off (by assumption) (by walk_at "at"), ?_⟩
  | with_reducible refine ⟨_, st_Cylinder_off (by assumption) (by walk_at "at"), ?_⟩
  | with_reducible refine ⟨rc_Cylinder (by walk_at "at"), ?_⟩
  | with_reducible refine ⟨_, fld_Moment_now (by assumption) (by walk_at "at"), ?_⟩
  | with_reducible refine ⟨_, st_Moment_now (by assumption) (by walk_at "at"), ?_⟩
  | with_reducible refine ⟨_, fld_Moment_position (by assumption) (by walk_at "at"), ?_⟩
  | with_reducible refine ⟨_, st_Moment_position (by assumption) (by walk_at "at"), ?_⟩
  | with_reducible refine ⟨_, fld_Moment_pace (by assumption) (by walk_at "at"), ?_⟩
  | with_reducible refine ⟨_, st_Moment_pace (by assumption) (by walk_at "at"), ?_⟩
  | with_reducible refine ⟨_, fld_Moment_span (by assumption) (by walk_at "at"), ?_⟩
  | with_reducible refine ⟨_, st_Moment_span (by assumption) (by walk_at "at"), ?_⟩
  | with_reducible refine ⟨rc_Moment (by walk_at "at"), ?_⟩
  | with_reducible refine ⟨_, fld_Timing_dwell (by assumption) (by walk_at "at"), ?_⟩
  | with_reducible refine ⟨_, st_Timing_dwell (by assumption) (by walk_at "at"), ?_⟩
  | with_reducible refine ⟨_, fld_Timing_most (by assumption) (by walk_at "at"), ?_⟩
  | with_reducible refine ⟨_, st_Timing_most (by assumption) (by walk_at "at"), ?_⟩
  | with_reducible refine ⟨_, fld_Timing_advance (by assumption) (by walk_at "at"), ?_⟩
  | with_reducible refine ⟨_, st_Timing_advance (by assumption) (by walk_at "at"), ?_⟩
  | with_reducible refine ⟨_, fld_Timing_fuel (by assumption) (by walk_at "at"), ?_⟩
  | with_reducible refine ⟨_, st_Timing_fuel (by assumption) (by walk_at "at"), ?_⟩
  | with_reducible refine ⟨rc_Timing (by walk_at "at"), ?_⟩
  | with_reducible refine ⟨_, fld_Engine_dwell (by assumption) (by walk_at "at"), ?_⟩
  | with_reducible refine ⟨_, st_Engine_dwell (by assumption) (by walk_at "at"), ?_⟩
  | with_reducible refine ⟨_, fld_Engine_most (by assumption) (by walk_at "at"), ?_⟩
  | with_reducible refine ⟨_, st_Engine_most (by assumption) (by walk_at "at"), ?_⟩
  | with_reducible refine ⟨_, fld_Engine_advances (by assumption) (by walk_at "at"), ?_⟩
  | with_reducible refine ⟨_, st_Engine_advances (by assumption) (by walk_at "at"), ?_⟩
  | with_reducible refine ⟨_, fld_Engine_fuels (by assumption) (by walk_at "at"), ?_⟩
  | with_reducible refine ⟨_, st_Engine_fuels (by assumption) (by walk_at "at"), ?_⟩
  | with_reducible refine ⟨_, fld_Engine_load_now (by assumption) (by walk_at "at"), ?_⟩
  | with_reducible refine ⟨_, st_Engine_load_now (by assumption) (by walk_at "at"), ?_⟩
  | with_reducible refine ⟨_, fld_Engine_crank (by assumption) (by walk_at "at"), ?_⟩
  | with_reducible refine ⟨_, st_Engine_crank (by assumption) (by walk_at "at"), ?_⟩
  | with_reducible refine ⟨_, fld_Engine_cylinders (by assumption) (by walk_at "at"), ?_⟩
  | with_reducible refine ⟨_, st_Engine_cylinders (by assumption) (by walk_at "at"), ?_⟩
  | with_reducible refine ⟨rc_Engine (by walk_at "at"), ?_⟩
  ))

section
variable {P : Program} {w : World} {K : PySem.W.Frag} {mg : Str → Option Value} {base : Heap} {A : Adr} {zz : Addr}

/-! ### Moment, the tables -/
def sp_Moment___init__ (K : PySem.W.Frag) (A : Adr) : Sp := fun vs H Q _ => ∃ (p dx cp cdx : Addr) (c : Ck) (e : Ks209.Here), vs = [.ref p, .ref cp] ∧ H p = some (.ins A.aMoment dx []) ∧ H cp = some (OC A cdx c) ∧ HereC c e ∧ ∀ H' : Hp, H' p = some (OM A dx e) → Fr1 p H H' → Q .non H'
theorem mom_eq {C dx : Addr} {a b c d a' b' c' d' : Int} (h1 : a = a') (h2 : b = b') (h3 : c = c') (h4 : d = d') : some (HO.ins C dx (L_Moment (.int a) (.int b) (.int c) (.int d))) = some (HO.ins C dx (L_Moment (.int a') (.int b') (.int c') (.int d'))) := by
  subst h1 h2 h3 h4
  rfl
theorem ok_Moment___init__ (T : Txt K mg A) : FnOk P w K mg base CX0 1 A.f_Moment___init__ A.d_Moment___init__ ["self", "crank"] (sp_Moment___init__ K A) := by
  refine T.m_Moment___init__.fn.ok sc_Moment___init__ (fun vs H Q E h => ?_) (fun cdv A0 outer s H vs Q E hr h => ?_)
  · obtain ⟨p, dx, cp, cdx, c, e, rfl, _⟩ := h
    rfl
  obtain ⟨p, dx, cp, cdx, c, e, rfl, h⟩ := h
  refine ⟨_, (pss_cons (ps_fld (pv 0) (pe_fld (pv 1) rfl) rfl)
      (pss_cons (ps_fld (pv 0) (pe_op op_mul (pgi T.g_PLACE) (pe_op op_add (pe_fld (pv 1) rfl) (pe_op op_mul (pgi T.g_PLACES) (pe_fld (pv 1) rfl)))) rfl)
      (pss_cons (ps_fld (pv 0) (pe_ifExp (pt_cmpR op_eq (pe_fld (pv 1) rfl) pe_int (nomark _)) (pe_callB (callR_max2 rfl) (by rfl) T.n_max boot_max (pa_cons (pe_op op_fdiv (pe_fld (pv 1) rfl) pe_int) (pa_cons pe_int pa_nil))) (pe_fld (pv 1) rfl)) rfl)
      (pss_one (ps_fld (pv 0) (pe_ifExp (pt_cmpR op_eq (pe_fld (pv 1) rfl) (pgi T.g_LAST_TOOTH) (nomark _)) (pe_op op_mul pe_int (pgi T.g_PLACE)) (pgi T.g_PLACE)) rfl))))), ?_⟩
  try dsimp only [cxK]
  obtain ⟨hp, hc, he, k⟩ := h
  have ncp : cp ≠ p := ne_of hc hp (ins_en "last_time" rfl rfl)
  obtain ⟨lt, iv, ce, pl, tu, cam⟩ := c
  obtain ⟨t, r, n, h1, h2, h3, h4, h5, h6, h7, h8⟩ := he.ex
  dsimp only at h1 h2 h3 h7 h8
  subst h1 h2 h3 h8
  dsimp only [OC, oV] at hc
  walk_at "rd"
  refine ⟨_, st_any hp T.cls_Moment T.n_Moment_now (Nat.le_of_ble_eq_true rfl), ?_⟩
  walk_at "rd"
  refine ⟨_, st_any upd_same T.cls_Moment T.n_Moment_position (Nat.le_of_ble_eq_true rfl), ?_⟩
  walk_at "rd"
  refine rd_ite (fun e1 => ?_) (fun e1 => ?_)
  · have e1 : pl = 0 := by
      have := of_decide_eq_true e1
      omega
    walk_at "rd"
    refine ⟨_, st_any upd_same T.cls_Moment T.n_Moment_pace (Nat.le_of_ble_eq_true rfl), ?_⟩
    walk_at "rd"
    refine rd_ite (fun e2 => absurd (of_decide_eq_true e2) (by omega)) (fun e2 => ?_)
    walk_at "rd"
    refine ⟨_, st_any upd_same T.cls_Moment T.n_Moment_span (Nat.le_of_ble_eq_true rfl), ?_⟩
    refine k _ ?_ (Fr1.refl.u.u.u.u)
    rw [upd_same, init_Moment]
    refine mom_eq rfl ?_ ?_ ?_
    · dsimp only
      omega
    · dsimp only
      split <;> omega
    · dsimp only
      split <;> omega
  · have e1 : ¬ pl = 0 := by
      have := of_decide_eq_false e1
      omega
    walk_at "rd"
    refine ⟨_, st_any upd_same T.cls_Moment T.n_Moment_pace (Nat.le_of_ble_eq_true rfl), ?_⟩
    walk_at "rd"
    refine rd_ite (fun e2 => ?_) (fun e2 => ?_)
    · have e2 := of_decide_eq_true e2
      walk_at "rd"
      refine ⟨_, st_any upd_same T.cls_Moment T.n_Moment_span (Nat.le_of_ble_eq_true rfl), ?_⟩
      refine k _ ?_ (Fr1.refl.u.u.u.u)
      rw [upd_same, init_Moment]
      refine mom_eq rfl ?_ ?_ ?_
      · dsimp only
        omega
      · dsimp only
        split <;> omega
      · dsimp only
        split <;> omega
    · have e2 := of_decide_eq_false e2
      walk_at "rd"
      refine ⟨_, st_any upd_same T.cls_Moment T.n_Moment_span (Nat.le_of_ble_eq_true rfl), ?_⟩
      refine k _ ?_ (Fr1.refl.u.u.u.u)
      rw [upd_same, init_Moment]
      refine mom_eq rfl ?_ ?_ ?_
      · dsimp only
        omega
      · dsimp only
        split <;> omega
      · dsimp only
        split <;> omega
def sp_Moment_ahead (K : PySem.W.Frag) (A : Adr) : Sp := fun vs H Q _ => ∃ (p dx : Addr) (e : Ks209.Here) (z : Int), vs = [.ref p, .int z] ∧ H p = some (OM A dx e) ∧ Q (.int ((z - (e.p : Nat)) % 4608)) H
theorem ok_Moment_ahead (T : Txt K mg A) : FnOk P w K mg base CX0 1 A.f_Moment_ahead A.d_Moment_ahead ["self", "position"] (sp_Moment_ahead K A) := by
  refine T.m_Moment_ahead.fn.ok sc_Moment_ahead (fun vs H Q E h => ?_) (fun cdv A0 outer s H vs Q E hr h => ?_)
  · obtain ⟨p, dx, e, z, rfl, _⟩ := h
    rfl
  obtain ⟨p, dx, e, z, rfl, h⟩ := h
  refine ⟨_, (pss_one (ps_ret (pe_op op_mod (pe_op op_sub (pv 1) (pe_fld (pv 0) rfl)) (pgi T.g_CYCLE)))), ?_⟩
  try dsimp only [cxK]
  obtain ⟨hp, k⟩ := h
  walk_at "rd"
  exact k
def sp_Moment_time_of (K : PySem.W.Frag) (A : Adr) : Sp := fun vs H Q _ => ∃ (p dx : Addr) (e : Ks209.Here) (a : Nat), vs = [.ref p, .int (a : Nat)] ∧ H p = some (OM A dx e) ∧ e.d ≤ 1048576 ∧ Q (.int (Ks209.comes e a : Nat)) H
theorem ok_Moment_time_of (T : Txt K mg A) : FnOk P w K mg base CX0 1 A.f_Moment_time_of A.d_Moment_time_of ["self", "distance"] (sp_Moment_time_of K A) := by
  refine T.m_Moment_time_of.fn.ok sc_Moment_time_of (fun vs H Q E h => ?_) (fun cdv A0 outer s H vs Q E hr h => ?_)
  · obtain ⟨p, dx, e, a, rfl, _⟩ := h
    rfl
  obtain ⟨p, dx, e, a, rfl, h⟩ := h
  refine ⟨_, (pss_one (ps_ret (pe_op op_add (pe_fld (pv 0) rfl) (pe_op op_fdiv (pe_op op_mul (pe_fld (pv 0) rfl) (pv 1)) (pgi T.g_PLACE))))), ?_⟩
  try dsimp only [cxK]
  obtain ⟨hp, hd, k⟩ := h
  walk_at "rd"
  refine rd_mulL ⟨by omega, by omega⟩ ?_
  walk_at "rd"
  exact qi k (comes_int e a).symm
def sp_Moment_speed (K : PySem.W.Frag) (A : Adr) : Sp := fun vs H Q _ => ∃ (p dx : Addr) (e : Ks209.Here), vs = [.ref p] ∧ H p = some (OM A dx e) ∧ 1 ≤ e.d ∧ e.d ≤ 1048576 ∧ Q (.int (Ks209.speed e : Nat)) H
theorem ok_Moment_speed (T : Txt K mg A) : FnOk P w K mg base CX0 1 A.f_Moment_speed A.d_Moment_speed ["self"] (sp_Moment_speed K A) := by
  refine T.m_Moment_speed.fn.ok sc_Moment_speed (fun vs H Q E h => ?_) (fun cdv A0 outer s H vs Q E hr h => ?_)
  · obtain ⟨p, dx, e, rfl, _⟩ := h
    rfl
  obtain ⟨p, dx, e, rfl, h⟩ := h
  refine ⟨_, (pss_one (ps_ret (pe_callB (callR_min2 rfl) (by rfl) T.n_min boot_min (pa_cons (pe_op op_fdiv (pgi T.g_SPEED_OF_ONE) (pe_fld (pv 0) rfl)) (pa_cons (pgi T.g_TOP_SPEED) pa_nil))))), ?_⟩
  try dsimp only [cxK]
  obtain ⟨hp, hd, hd', k⟩ := h
  walk_at "rd"
  refine rd_div ⟨by omega, by omega⟩ ?_
  walk_at "rd"
  refine qi k ?_
  rw [← speed_int e]
  split <;> omega
def sp_share (K : PySem.W.Frag) (A : Adr) : Sp := fun vs H Q _ => ∃ (a b u : Int), vs = [.int a, .int b, .int u] ∧ 0 ≤ u ∧ u ≤ 256 ∧ Q (.int (share a b u)) H
theorem ok_share (T : Txt K mg A) : FnOk P w K mg base CX0 1 A.f_share A.d_share ["here", "there", "way"] (sp_share K A) := by
  refine T.F_share.ok sc_share (fun vs H Q E h => ?_) (fun cdv A0 outer s H vs Q E hr h => ?_)
  · obtain ⟨a, b, u, rfl, _⟩ := h
    rfl
  obtain ⟨a, b, u, rfl, h⟩ := h
  refine ⟨_, (pss_one (ps_ret (pe_op op_add (pe_op op_mul (pv 0) (pe_op op_sub (pgi T.g_STEP) (pv 2))) (pe_op op_mul (pv 1) (pv 2))))), ?_⟩
  try dsimp only [cxK]
  obtain ⟨h0, h1, k⟩ := h
  walk_at "rd"
  refine rd_mulR ⟨by omega, by omega⟩ ?_
  walk_at "rd"
  refine rd_mulR ⟨by omega, by omega⟩ ?_
  walk_at "rd"
  exact k
theorem at_tab {tb : List Int} {z : Int} {j : Nat} (hl : tb.length = 256) (hj : j < 256) (e : z = (j : Int)) : atI (tb.map V.int) z = some (V.int (tb.getD j 0)) := by
  refine at_of e ?_
  rw [List.getElem?_map, List.getElem?_eq_getElem (by omega), List.getD_eq_getElem?_getD, List.getElem?_eq_getElem (by omega)]
  rfl
def sp_look_between (K : PySem.W.Frag) (A : Adr) : Sp := fun vs H Q _ => ∃ (p : Addr) (tb : List Int) (x y : Nat), vs = [.ref p, .int (x : Nat), .int (y : Nat)] ∧ SqL K H p (tb.map V.int) ∧ tb.length = 256 ∧ x ≤ 3840 ∧ y ≤ 3840 ∧ Q (.int (Ks208.look tb x y)) H
theorem ok_look_between (T : Txt K mg A) : FnOk P w K mg base CX0 2 A.f_look_between A.d_look_between ["table", "x", "y"] (sp_look_between K A) := by
  refine T.F_look_between.ok sc_look_between (fun vs H Q E h => ?_) (fun cdv A0 outer s H vs Q E hr h => ?_)
  · obtain ⟨p, tb, x, y, rfl, _⟩ := h
    rfl
  obtain ⟨p, tb, x, y, rfl, h⟩ := h
  refine ⟨_, (pss_cons (ps_set (i := 3) sc_look_between.nd rfl (Or.inl rfl) (pe_op op_fdiv (pv 1) (pgi T.g_STEP)))
      (pss_cons (ps_set (i := 4) sc_look_between.nd rfl (Or.inl rfl) (pe_op op_fdiv (pv 2) (pgi T.g_STEP)))
      (pss_cons (ps_set (i := 5) sc_look_between.nd rfl (Or.inl rfl) (pe_callB (callR_min2 rfl) (by rfl) T.n_min boot_min (pa_cons (pe_op op_add (pv 3) pe_int) (pa_cons (pgi T.g_LAST) pa_nil))))
      (pss_cons (ps_set (i := 6) sc_look_between.nd rfl (Or.inl rfl) (pe_callB (callR_min2 rfl) (by rfl) T.n_min boot_min (pa_cons (pe_op op_add (pv 4) pe_int) (pa_cons (pgi T.g_LAST) pa_nil))))
      (pss_cons (ps_set (i := 7) sc_look_between.nd rfl (Or.inl rfl) (pe_call (ok_share T) (hr.mono (by decide)) rfl T.f_share T.k_share T.b_share .nil pass0 (pa_cons (pe_ix ix_list (pv 0) (pe_op op_add (pe_op op_mul (pgi T.g_SIDE) (pv 4)) (pv 3)) (fun _ _ => rfl)) (pa_cons (pe_ix ix_list (pv 0) (pe_op op_add (pe_op op_mul (pgi T.g_SIDE) (pv 4)) (pv 5)) (fun _ _ => rfl)) (pa_cons (pe_op op_mod (pv 1) (pgi T.g_STEP)) pa_nil)))))
      (pss_cons (ps_set (i := 8) sc_look_between.nd rfl (Or.inl rfl) (pe_call (ok_share T) (hr.mono (by decide)) rfl T.f_share T.k_share T.b_share .nil pass0 (pa_cons (pe_ix ix_list (pv 0) (pe_op op_add (pe_op op_mul (pgi T.g_SIDE) (pv 6)) (pv 3)) (fun _ _ => rfl)) (pa_cons (pe_ix ix_list (pv 0) (pe_op op_add (pe_op op_mul (pgi T.g_SIDE) (pv 6)) (pv 5)) (fun _ _ => rfl)) (pa_cons (pe_op op_mod (pv 1) (pgi T.g_STEP)) pa_nil)))))
      (pss_one (ps_ret (pe_op op_fdiv (pe_op op_add (pe_call (ok_share T) (hr.mono (by decide)) rfl T.f_share T.k_share T.b_share .nil pass0 (pa_cons (pv 7) (pa_cons (pv 8) (pa_cons (pe_op op_mod (pv 2) (pgi T.g_STEP)) pa_nil)))) (pe_op op_fdiv (pe_op op_mul (pgi T.g_STEP) (pgi T.g_STEP)) pe_int)) (pe_op op_mul (pgi T.g_STEP) (pgi T.g_STEP))))))))))), ?_⟩
  try dsimp only [cxK]
  obtain ⟨hp, hl, hx, hy, k⟩ := h
  walk_at "rd"
  refine rd_ixL hp (at_tab (j := 16 * (y / 256) + x / 256) hl (by omega) (by omega)) ?_
  walk_at "rd"
  refine rd_ixL hp (at_tab (j := 16 * (y / 256) + min (x / 256 + 1) 15) hl (by omega) (by omega)) ?_
  walk_at "rd"
  refine ⟨_, _, _, rfl, by omega, by omega, ?_⟩
  walk_at "rd"
  refine rd_ixL hp (at_tab (j := 16 * min (y / 256 + 1) 15 + x / 256) hl (by omega) (by omega)) ?_
  walk_at "rd"
  refine rd_ixL hp (at_tab (j := 16 * min (y / 256 + 1) 15 + min (x / 256 + 1) 15) hl (by omega) (by omega)) ?_
  walk_at "rd"
  refine ⟨_, _, _, rfl, by omega, by omega, ?_⟩
  walk_at "rd"
  refine ⟨_, _, _, rfl, by omega, by omega, ?_⟩
  walk_at "rd"
  refine qi k ?_
  rw [← look_eq hx hy]
  unfold pyLook
  rw [Int.natCast_emod, Int.natCast_emod]
  rfl
def sp_Timing___init__ (K : PySem.W.Frag) (A : Adr) : Sp := fun vs H Q _ => ∃ (p dx : Addr) (h : Ks209.How) (adv fuel : Nat), vs = [.ref p, .int (h.dwell : Nat), .int (h.most : Nat), .int (adv : Nat), .int (fuel : Nat)] ∧ H p = some (.ins A.aTiming dx []) ∧ ∀ H' : Hp, H' p = some (OT A dx h adv fuel) → Fr1 p H H' → Q .non H'
theorem ok_Timing___init__ (T : Txt K mg A) : FnOk P w K mg base CX0 1 A.f_Timing___init__ A.d_Timing___init__ ["self", "dwell", "most", "advance", "fuel"] (sp_Timing___init__ K A) := by
  refine T.m_Timing___init__.fn.ok sc_Timing___init__ (fun vs H Q E h => ?_) (fun cdv A0 outer s H vs Q E hr h => ?_)
  · obtain ⟨p, dx, hw, adv, fuel, rfl, _⟩ := h
    rfl
  obtain ⟨p, dx, hw, adv, fuel, rfl, h⟩ := h
  refine ⟨_, (pss_cons (ps_fld (pv 0) (pv 1) rfl)
      (pss_cons (ps_fld (pv 0) (pv 2) rfl)
      (pss_cons (ps_fld (pv 0) (pv 3) rfl)
      (pss_one (ps_fld (pv 0) (pv 4) rfl))))), ?_⟩
  try dsimp only [cxK]
  obtain ⟨hp, k⟩ := h
  walk_at "rd"
  refine ⟨_, st_any hp T.cls_Timing T.n_Timing_dwell (Nat.le_of_ble_eq_true rfl), ?_⟩
  walk_at "rd"
  refine ⟨_, st_any upd_same T.cls_Timing T.n_Timing_most (Nat.le_of_ble_eq_true rfl), ?_⟩
  walk_at "rd"
  refine ⟨_, st_any upd_same T.cls_Timing T.n_Timing_advance (Nat.le_of_ble_eq_true rfl), ?_⟩
  walk_at "rd"
  refine ⟨_, st_any upd_same T.cls_Timing T.n_Timing_fuel (Nat.le_of_ble_eq_true rfl), ?_⟩
  exact k _ (by rw [init_Timing]; exact upd_same) (Fr1.refl.u.u.u.u)
end
end Et

set_option Elab.async false
set_option linter.all false
set_option maxRecDepth 100000
set_option maxHeartbeats 4000000
namespace Et
open PySem PySem.Spec PyProof.Rows L2
open PySem.W (Codec)
local macro_rules | `(tactic| walk_at "at") => `(tactic| first | assumption | exact upd_same | (refine (upd_ne (by assumption)).trans ?_; walk_at "at"))
local macro_rules | `(tactic| walk_at "rd") => `(tactic| repeat (first
  | with_reducible refine rd_seq ?_
  | with_reducible refine rd_ret ?_
  | with_reducible refine rd_retN ?_
  | with_reducible refine rd_drop ?_
  | with_reducible refine rd_asg ?_
  | with_reducible refine rd_name ?_
  | with_reducible refine rd_next ?_
  | with_reducible refine rd_if ?_
  | with_reducible refine rd_test ?_
  | with_reducible refine rd_tB ?_
  | with_reducible refine rd_and ?_
  | with_reducible refine rd_or ?_
  | with_reducible refine rd_not ?_
  | with_reducible refine rd_andV ?_
  | with_reducible refine rd_orV ?_
  | with_reducible refine rd_notV ?_
  | with_reducible refine rd_ifE ?_
  | with_reducible refine rd_op ?_
  | with_reducible refine rd_chain ?_
  | with_reducible refine rd_C ?_
  | ((with_reducible refine rd_varE ?_); refine ⟨_, rfl, ?_⟩)
  | with_reducible refine rd_rI0 ?_
  | with_reducible refine rd_eqI ?_
  | with_reducible refine rd_neI ?_
  | with_reducible refine rd_get ?_
  | with_reducible refine rd_put ?_
  | with_reducible refine rd_met ?_
  | with_reducible refine rd_cal ?_
  | with_reducible refine rd_mak ?_
  | with_reducible refine rd_cb ?_
  | with_reducible refine rd_nil ?_
  | with_reducible refine rd_cons ?_
  | with_reducible refine rd_lst ?_
  | with_reducible refine rd_tup ?_
  | with_reducible refine rd_sl ?_
  | with_reducible refine rd_part ?_
  | with_reducible refine rd_nopart ?_
  | with_reducible refine rd_bm ?_
  | with_reducible refine rd_bl ?_
  | with_reducible refine rd_blV ?_
  | with_reducible refine rd_intV ?_
  | with_reducible refine iteT ?_
  | with_reducible refine iteF ?_
  | with_reducible refine rd_itNT ?_
  | with_reducible refine rd_itNF ?_
  | with_reducible refine rd_for ?_
  | with_reducible refine rd_lcL ?_
  | with_reducible refine rd_lcR ?_
  | with_reducible refine rd_yes ?_
  | with_reducible refine rd_listT (SqL.of (by walk_at "at")) ?_
  | with_reducible refine rd_isNn ?_
  | with_reducible refine rd_isNi ?_
  | with_reducible refine rd_notNn ?_
  | with_reducible refine rd_notNi ?_
  | with_reducible refine rd_eqNi ?_
  | with_reducible refine rd_max2 ?_
  | with_reducible refine rd_min2 ?_
  | with_reducible refine rd_mulL (by decide) ?_
  | with_reducible refine rd_div (by decide) ?_
  | with_reducible refine rd_mod (by decide) ?_
  | with_reducible refine ⟨_, fld_Crank_last_time (by assumption) (by walk_at "at"), ?_⟩
  | with_reducible refine ⟨_, st_Crank_last_time (by assumption) (by walk_at "at"), ?_⟩
  | with_reducible refine ⟨_, fld_Crank_interval (by assumption) (by walk_at "at"), ?_⟩
  | with_reducible refine ⟨_, st_Crank_interval (by assumption) (by walk_at "at"), ?_⟩
  | with_reducible refine ⟨_, fld_Crank_certainty (by assumption) (by walk_at "at"), ?_⟩
  | with_reducible refine ⟨_, st_Crank_certainty (by assumption) (by walk_at "at"), ?_⟩
  | with_reducible refine ⟨_, fld_Crank_place (by assumption) (by walk_at "at"), ?_⟩
  | with_reducible refine ⟨_, st_Crank_place (by assumption) (by walk_at "at"), ?_⟩
  | with_reducible refine ⟨_, fld_Crank_turn (by assumption) (by walk_at "at"), ?_⟩
  | with_reducible refine ⟨_, st_Crank_turn (by assumption) (by walk_at "at"), ?_⟩
  | with_reducible refine ⟨_, fld_Crank_cam_told (by assumption) (by walk_at "at"), ?_⟩
  | with_reducible refine ⟨_, st_Crank_cam_told (by assumption) (by walk_at "at"), ?_⟩
  | with_reducible refine ⟨rc_Crank (by walk_at "at"), ?_⟩
  | with_reducible refine ⟨_, fld_Cylinder_number (by assumption) (by walk_at "at"), ?_⟩
  | with_reducible refine ⟨_, st_Cylinder_number (by assumption) (by walk_at "at"), ?_⟩
  | with_reducible refine ⟨_, fld_Cylinder_phase (by assumption) (by walk_at "at"), ?_⟩
  | with_reducible refine ⟨_, st_Cylinder_phase (by assumption) (by walk_at "at"), ?_⟩
  | with_reducible refine ⟨_, fld_Cylinder_went_on (by assumption) (by walk_at "at"), ?_⟩
  | with_reducible refine ⟨_, st_Cylinder_went_on (by assumption) (by walk_at "at"), ?_⟩
  | with_reducible refine ⟨_, fld_Cylinder_off (by assumption) (by walk_at "at"), ?_⟩
  | with_reducible refine ⟨_, st_Cylinder_off (by assumption) (by walk_at "at"), ?_⟩
  | with_reducible refine ⟨rc_Cylinder (by walk_at "at"), ?_⟩
  | with_reducible refine ⟨_, fld_Moment_now (by assumption) (by walk_at "at"), ?_⟩
  | with_reducible refine ⟨_, st_Moment_now (by assumption) (by walk_at "at"), ?_⟩
  | with_reducible refine ⟨_, fld_Moment_position (by assumption) (by walk_at "at"), ?_⟩
  | with_reducible refine ⟨_, st_Moment_position (by assumption) (by walk_at "at"), ?_⟩
  | with_reducible refine ⟨_, fld_Moment_pace (by assumption) (by walk_at "at"), ?_⟩
  | with_reducible refine ⟨_, st_Moment_pace (by assumption) (by walk_at "at"), ?_⟩
  | with_reducible refine ⟨_, fld_Moment_span (by assumption) (by walk_at "at"), ?_⟩
  | with_reducible refine ⟨_, st_Moment_span (by assumption) (by walk_at "at"), ?_⟩
  | with_reducible refine ⟨rc_Moment (by walk_at "at"), ?_⟩
  | with_reducible refine ⟨_, fld_Timing_dwell (by assumption) (by walk_at "at"), ?_⟩
  | with_reducible refine ⟨_, st_Timing_dwell (by assumption) (by walk_at "at"), ?_⟩
  | with_reducible refine ⟨_, fld_Timing_most (by assumption) (by walk_at "at"), ?_⟩
  | with_reducible refine ⟨_, st_Timing_most (by assumption) (by walk_at "at"), ?_⟩
  | with_reducible refine ⟨_, fld_Timing_advance (by assumption) (by walk_at "at"), ?_⟩
  | with_reducible refine ⟨_, st_Timing_advance (by assumption) (by walk_at "at"), ?_⟩
  | with_reducible refine ⟨_, fld_Timing_fuel (by assumption) (by walk_at "at"), ?_⟩
  | with_reducible refine ⟨_, st_Timing_fuel (by assumption) (by walk_at "at"), ?_⟩
  | with_reducible refine ⟨rc_Timing (by walk_at "at"), ?_⟩
  | with_reducible refine ⟨_, fld_Engine_dwell (by assumption) (by walk_at "at"), ?_⟩
  | with_reducible refine ⟨_, st_Engine_dwell (by assumption) (by walk_at "at"), ?_⟩
  | with_reducible refine ⟨_, fld_Engine_most (by assumption) (by walk_at "at"), ?_⟩
  | with_reducible refine ⟨_, st_Engine_most (by assumption) (by walk_at "at"), ?_⟩
  | with_reducible refine ⟨_, fld_Engine_advances (by assumption) (by walk_at "at"), ?_⟩
  | with_reducible refine ⟨_, st_Engine_advances (by assumption) (by walk_at "at"), ?_⟩
  | with_reducible refine ⟨_, fld_Engine_fuels (by assumption) (by walk_at "at"), ?_⟩
  | with_reducible refine ⟨_, st_Engine_fuels (by assumption) (by walk_at "at"), ?_⟩
  | with_reducible refine ⟨_, fld_Engine_load_now (by assumption) (by walk_at "at"), ?_⟩
  | with_reducible refine ⟨_, st_Engine_load_now (by assumption) (by walk_at "at"), ?_⟩
  | with_reducible refine ⟨_, fld_Engine_crank (by assumption) (by walk_at "at"), ?_⟩
  | with_reducible refine ⟨_, st_Engine_crank (by assumption) (by walk_at "at"), ?_⟩
  | with_reducible refine ⟨_, fld_Engine_cylinders (by assumption) (by walk_at "at"), ?_⟩
  | with_reducible refine ⟨_, st_Engine_cylinders (by assumption) (by walk_at "at"), ?_⟩
  | with_reducible refine ⟨rc_Engine (by walk_at "at"), ?_⟩
  ))

section
variable {P : Program} {w : World} {K : PySem.W.Frag} {mg : Str → Option Value} {base : Heap} {A : Adr} {zz : Addr}

/-! ### Cylinder -/
theorem apart_YM {H : Hp} {p q dx dy : Addr} {n : Nat} {x : Ks209.Coil} {e : Ks209.Here} (h : H p = some (OY A dx n x)) (h' : H q = some (OM A dy e)) : q ≠ p := ne_of h' h (ins_en "now" rfl rfl)
theorem apart_YT {H : Hp} {p q dx dy : Addr} {n : Nat} {x : Ks209.Coil} {hw : Ks209.How} {a f : Nat} (h : H p = some (OY A dx n x)) (h' : H q = some (OT A dy hw a f)) : q ≠ p := ne_of h' h (ins_en "dwell" rfl rfl)
def sp_Cylinder___init__ (K : PySem.W.Frag) (A : Adr) : Sp := fun vs H Q _ => ∃ (p dx : Addr) (n : Nat), vs = [.ref p, .int (n : Nat)] ∧ H p = some (.ins A.aCylinder dx []) ∧ ∀ H' : Hp, H' p = some (OY A dx n ⟨.idle, 0, 0⟩) → Fr1 p H H' → Q .non H'
theorem ok_Cylinder___init__ (T : Txt K mg A) : FnOk P w K mg base CX0 1 A.f_Cylinder___init__ A.d_Cylinder___init__ ["self", "number"] (sp_Cylinder___init__ K A) := by
  refine T.m_Cylinder___init__.fn.ok sc_Cylinder___init__ (fun vs H Q E h => ?_) (fun cdv A0 outer s H vs Q E hr h => ?_)
  · obtain ⟨p, dx, n, rfl, _⟩ := h
    rfl
  obtain ⟨p, dx, n, rfl, h⟩ := h
  refine ⟨_, (pss_cons (ps_fld (pv 0) (pv 1) rfl)
      (pss_cons (ps_fld (pv 0) (pgi T.g_IDLE) rfl)
      (pss_cons (ps_fld (pv 0) pe_int rfl)
      (pss_one (ps_fld (pv 0) pe_int rfl))))), ?_⟩
  try dsimp only [cxK]
  obtain ⟨hp, k⟩ := h
  walk_at "rd"
  refine ⟨_, st_any hp T.cls_Cylinder T.n_Cylinder_number (Nat.le_of_ble_eq_true rfl), ?_⟩
  walk_at "rd"
  refine ⟨_, st_any upd_same T.cls_Cylinder T.n_Cylinder_phase (Nat.le_of_ble_eq_true rfl), ?_⟩
  walk_at "rd"
  refine ⟨_, st_any upd_same T.cls_Cylinder T.n_Cylinder_went_on (Nat.le_of_ble_eq_true rfl), ?_⟩
  walk_at "rd"
  refine ⟨_, st_any upd_same T.cls_Cylinder T.n_Cylinder_off (Nat.le_of_ble_eq_true rfl), ?_⟩
  exact k _ (by rw [init_Cylinder]; exact upd_same) (Fr1.refl.u.u.u.u)
/-- what a cylinder's call does: its object, the list that it tells -/
def Tells (A : Adr) (H : Hp) (Q : VK) (p dx : Addr) (n : Nat) (x' : Ks209.Coil) (l : List Ks209.Ev) : Prop :=
  ∀ (H' : Hp) (q : Addr), H' p = some (OY A dx n x') → H' q = some (.lst ((evI l).map V.int)) → H q = none → Fr1 p H H' → Q (.ref q) H'
def sp_Cylinder_give_up (K : PySem.W.Frag) (A : Adr) : Sp := fun vs H Q _ => ∃ (p dx : Addr) (n : Nat) (x : Ks209.Coil) (t : Nat), vs = [.ref p, .int (t : Nat)] ∧ H p = some (OY A dx n x) ∧ Tells A H Q p dx n (idleF t n x) (softG t n x)
theorem ok_Cylinder_give_up (T : Txt K mg A) : FnOk P w K mg base CX0 1 A.f_Cylinder_give_up A.d_Cylinder_give_up ["self", "t"] (sp_Cylinder_give_up K A) := by
  refine T.m_Cylinder_give_up.fn.ok sc_Cylinder_give_up (fun vs H Q E h => ?_) (fun cdv A0 outer s H vs Q E hr h => ?_)
  · obtain ⟨p, dx, n, x, t, rfl, _⟩ := h
    rfl
  obtain ⟨p, dx, n, x, t, rfl, h⟩ := h
  refine ⟨_, (pss_cons (ps_fld (pv 0) (pgi T.g_IDLE) rfl)
      (pss_cons (ps_if (pt_cmpR op_le (pe_fld (pv 0) rfl) (pv 1) (nomark _)) (pss_one (ps_ret (pe_lst pa_nil))) pss_nil)
      (pss_cons (ps_fld (pv 0) (pv 1) rfl)
      (pss_one (ps_ret (pe_lst (pa_cons (pgi T.g_SOFT_OFF) (pa_cons (pe_fld (pv 0) rfl) (pa_cons (pv 1) pa_nil))))))))), ?_⟩
  try dsimp only [cxK]
  obtain ⟨hp, k⟩ := h
  walk_at "rd"
  refine rd_ite (fun e => ?_) (fun e => ?_)
  · have e : x.off ≤ t := by
      have := of_decide_eq_true e
      omega
    have q1 : idleF t n x = ⟨.idle, x.on, x.off⟩ := by
      unfold idleF
      rw [Nat.min_eq_left e]
    have q2 : softG t n x = [] := by
      unfold softG
      rw [if_neg (by omega)]
    rw [q1, q2] at k
    walk_at "rd"
    refine ⟨Nat.zero_le _, fun q hq => ?_⟩
    obtain ⟨hq', nq⟩ := upd_none hq
    exact k _ q ((upd_ne (Ne.symm nq)).trans upd_same) upd_same hq' (Fr1.refl.u.n hq')
  · have e : t < x.off := by
      have := of_decide_eq_false e
      omega
    have q1 : idleF t n x = ⟨.idle, x.on, t⟩ := by
      unfold idleF
      rw [Nat.min_eq_right (by omega)]
    have q2 : softG t n x = [.at_ 2 n t] := by
      unfold softG
      rw [if_pos e]
    rw [q1, q2] at k
    walk_at "rd"
    refine ⟨Nat.le_of_ble_eq_true rfl, fun q hq => ?_⟩
    obtain ⟨hq1, nq⟩ := upd_none hq
    obtain ⟨hq', _⟩ := upd_none hq1
    exact k _ q ((upd_ne (Ne.symm nq)).trans upd_same) upd_same hq' (Fr1.refl.u.u.n hq')
theorem out0 {s : Ks209.State} : ((Ks209.coilOut s : Nat) : Int) = 0 ↔ s = .idle := by cases s <;> simp [Ks209.coilOut]
theorem out1 {s : Ks209.State} : ((Ks209.coilOut s : Nat) : Int) = 1 ↔ s = .on := by cases s <;> simp [Ks209.coilOut]
theorem out2 {s : Ks209.State} : ((Ks209.coilOut s : Nat) : Int) = 2 ↔ s = .done := by cases s <;> simp [Ks209.coilOut]
theorem Tells.none {H : Hp} {Q : VK} {p dx : Addr} {n : Nat} {x : Ks209.Coil} (k : Tells A H Q p dx n x []) (hp : H p = some (OY A dx n x)) : ([] : List V).length ≤ sizeLine ∧ ∀ q, H q = Option.none → Q (.ref q) (upd H q (.lst [])) :=
  ⟨Nat.zero_le _, fun q hq => k _ q ((upd_ne (ne_of_none hp hq)).trans hp) upd_same hq (Fr1.refl.n hq)⟩
def sp_Cylinder_rest (K : PySem.W.Frag) (A : Adr) : Sp := fun vs H Q _ => ∃ (p dx : Addr) (n : Nat) (x : Ks209.Coil) (a : Nat), vs = [.ref p, .int (a : Nat)] ∧ H p = some (OY A dx n x) ∧ ∀ H' : Hp, H' p = some (OY A dx n (rest1 a x)) → Fr1 p H H' → Q .non H'
theorem rest_no {a : Nat} {x : Ks209.Coil} (h : ¬ (x.st = .done ∧ 1152 ≤ a ∧ a < 2304)) : rest1 a x = x := by
  unfold rest1
  rw [if_neg h]
theorem ok_Cylinder_rest (T : Txt K mg A) : FnOk P w K mg base CX0 1 A.f_Cylinder_rest A.d_Cylinder_rest ["self", "ahead"] (sp_Cylinder_rest K A) := by
  refine T.m_Cylinder_rest.fn.ok sc_Cylinder_rest (fun vs H Q E h => ?_) (fun cdv A0 outer s H vs Q E hr h => ?_)
  · obtain ⟨p, dx, n, x, a, rfl, _⟩ := h
    rfl
  obtain ⟨p, dx, n, x, a, rfl, h⟩ := h
  refine ⟨_, (pss_one (ps_if (pw_and (pt_cmpR op_eq (pe_fld (pv 0) rfl) (pgi T.g_DONE) (nomark _)) (pw_and1 (pt_chain op_le op_lt (pgi T.g_QUARTER) (pv 1) (pgi T.g_HALF)))).pt (pss_one (ps_fld (pv 0) (pgi T.g_IDLE) rfl)) pss_nil)), ?_⟩
  try dsimp only [cxK]
  obtain ⟨hp, k⟩ := h
  walk_at "rd"
  refine rd_ite (fun e => ?_) (fun e => ?_)
  · have e := out2.mp (of_decide_eq_true e)
    walk_at "rd"
    refine rd_ite (fun e2 => ?_) (fun e2 => ?_)
    · have e2 := of_decide_eq_true e2
      walk_at "rd"
      refine rd_ite (fun e3 => ?_) (fun e3 => ?_)
      · have e3 := of_decide_eq_true e3
        walk_at "rd"
        have q : rest1 a x = { x with st := .idle } := by
          unfold rest1
          rw [if_pos ⟨e, by omega, by omega⟩]
        rw [q] at k
        exact k _ upd_same Fr1.refl.u
      · have e3 := of_decide_eq_false e3
        walk_at "rd"
        rw [rest_no (by omega)] at k
        exact k _ hp Fr1.refl
    · have e2 := of_decide_eq_false e2
      walk_at "rd"
      rw [rest_no (by omega)] at k
      exact k _ hp Fr1.refl
  · have e : ¬ x.st = .done := fun q => of_decide_eq_false e (out2.mpr q)
    walk_at "rd"
    rw [rest_no (fun q => e q.1)] at k
    exact k _ hp Fr1.refl
/-- a tooth's data -/
structure At (A : Adr) (H : Hp) (mp tp : Addr) (e : Ks209.Here) (hw : Ks209.How) (adv fuel : Nat) : Prop where
  m : ∃ dx, H mp = some (OM A dx e)
  t : ∃ dx, H tp = some (OT A dx hw adv fuel)
  d1 : 1 ≤ e.d
  d2 : e.d ≤ 1048576
  s1 : 64 ≤ e.span
  s2 : e.span ≤ 128
  a1 : adv ≤ 1024
theorem At.keep {H H' : Hp} {mp tp p dx : Addr} {e : Ks209.Here} {hw : Ks209.How} {adv fuel n : Nat} {x : Ks209.Coil} (B : At A H mp tp e hw adv fuel) (hp : H p = some (OY A dx n x)) (f : Fr1 p H H') : At A H' mp tp e hw adv fuel := by
  obtain ⟨mx, hm⟩ := B.m
  obtain ⟨tx, ht⟩ := B.t
  exact ⟨⟨mx, f _ _ hm (apart_YM hp hm)⟩, ⟨tx, f _ _ ht (apart_YT hp ht)⟩, B.d1, B.d2, B.s1, B.s2, B.a1⟩
theorem comes_pos {e : Ks209.Here} (h : 1 ≤ e.d) (s : 64 ≤ e.span) : 0 < Ks209.comes e e.span := by
  unfold Ks209.comes
  have : 1 * 64 ≤ e.d * e.span := Nat.mul_le_mul h s
  omega
def sp_Cylinder_go_on (K : PySem.W.Frag) (A : Adr) : Sp := fun vs H Q _ => ∃ (p dx : Addr) (n : Nat) (x : Ks209.Coil) (a : Nat) (mp tp : Addr) (e : Ks209.Here) (hw : Ks209.How) (adv fuel : Nat), vs = [.ref p, .ref mp, .int (a : Nat), .ref tp] ∧ H p = some (OY A dx n x) ∧ At A H mp tp e hw adv fuel ∧ Tells A H Q p dx n (goOn hw e n a x).1 (goOn hw e n a x).2
theorem goOn_no {hw : Ks209.How} {e : Ks209.Here} {n a : Nat} {x : Ks209.Coil} (h : ¬ (x.st = .idle ∧ x.off ≤ e.t ∧ a ≤ 1152 ∧ Ks209.comes e a - hw.dwell < Ks209.comes e e.span)) : goOn hw e n a x = (x, []) := by
  unfold goOn
  simp only
  rw [if_neg h]
theorem goOn_yes {hw : Ks209.How} {e : Ks209.Here} {n a : Nat} {x : Ks209.Coil} (h : x.st = .idle ∧ x.off ≤ e.t ∧ a ≤ 1152 ∧ Ks209.comes e a - hw.dwell < Ks209.comes e e.span) : goOn hw e n a x =
    (⟨.on, max e.t (Ks209.comes e a - hw.dwell), max e.t (Ks209.comes e a - hw.dwell) + hw.most⟩, [.at_ 0 n (max e.t (Ks209.comes e a - hw.dwell)), .at_ 2 n (max e.t (Ks209.comes e a - hw.dwell) + hw.most)]) := by
  unfold goOn
  simp only
  rw [if_pos h]
theorem ok_Cylinder_go_on (T : Txt K mg A) : FnOk P w K mg base CX0 2 A.f_Cylinder_go_on A.d_Cylinder_go_on ["self", "moment", "ahead", "timing"] (sp_Cylinder_go_on K A) := by
  refine T.m_Cylinder_go_on.fn.ok sc_Cylinder_go_on (fun vs H Q E h => ?_) (fun cdv A0 outer s H vs Q E hr h => ?_)
  · obtain ⟨p, dx, n, x, a, mp, tp, e, hw, adv, fuel, rfl, _⟩ := h
    rfl
  obtain ⟨p, dx, n, x, a, mp, tp, e, hw, adv, fuel, rfl, h⟩ := h
  refine ⟨_, (pss_cons (ps_set (i := 4) sc_Cylinder_go_on.nd rfl (Or.inl rfl) (pe_op op_sub (pe_meth (pv 1) T.cls_Moment T.m_Moment_time_of.mt (ok_Moment_time_of T) (hr.mono (by decide)) T.m_Moment_time_of.bd .nil pass0 (pa_cons (pv 2) pa_nil)) (pe_fld (pv 3) rfl)))
      (pss_cons (ps_if (pw_or (pt_cmpR op_ne (pe_fld (pv 0) rfl) (pgi T.g_IDLE) (nomark _)) (pw_or (pt_cmpR op_gt (pe_fld (pv 0) rfl) (pe_fld (pv 1) rfl) (nomark _)) (pw_or1 (pt_cmpR op_gt (pv 2) (pgi T.g_QUARTER) (nomark _))))).pt (pss_one (ps_ret (pe_lst pa_nil))) pss_nil)
      (pss_cons (ps_if (pt_cmpR op_ge (pv 4) (pe_meth (pv 1) T.cls_Moment T.m_Moment_time_of.mt (ok_Moment_time_of T) (hr.mono (by decide)) T.m_Moment_time_of.bd .nil pass0 (pa_cons (pe_fld (pv 1) rfl) pa_nil)) (nomark _)) (pss_one (ps_ret (pe_lst pa_nil))) pss_nil)
      (pss_cons (ps_fld (pv 0) (pgi T.g_ON) rfl)
      (pss_cons (ps_fld (pv 0) (pe_callB (callR_max2 rfl) (by rfl) T.n_max boot_max (pa_cons (pv 4) (pa_cons (pe_fld (pv 1) rfl) pa_nil))) rfl)
      (pss_cons (ps_fld (pv 0) (pe_op op_add (pe_fld (pv 0) rfl) (pe_fld (pv 3) rfl)) rfl)
      (pss_one (ps_ret (pe_lst (pa_cons (pgi T.g_COIL_ON) (pa_cons (pe_fld (pv 0) rfl) (pa_cons (pe_fld (pv 0) rfl) (pa_cons (pgi T.g_SOFT_OFF) (pa_cons (pe_fld (pv 0) rfl) (pa_cons (pe_fld (pv 0) rfl) pa_nil))))))))))))))), ?_⟩
  try dsimp only [cxK]
  obtain ⟨hp, B, k⟩ := h
  obtain ⟨mx, hm⟩ := B.m
  obtain ⟨tx, ht⟩ := B.t
  have nm := apart_YM hp hm
  have nt := apart_YT hp ht
  walk_at "rd"
  refine ⟨mp, mx, e, a, rfl, hm, B.d2, ?_⟩
  walk_at "rd"
  refine rd_ite (fun e1 => ?_) (fun e1 => ?_)
  · walk_at "rd"
    rw [goOn_no (fun q => nd_t e1 (out0.mpr q.1))] at k
    exact k.none hp
  · have e1 := out0.mp (nd_f e1)
    walk_at "rd"
    refine rd_ite (fun e2 => ?_) (fun e2 => ?_)
    · have e2 := of_decide_eq_true e2
      walk_at "rd"
      rw [goOn_no (fun q => by have := q.2.1; omega)] at k
      exact k.none hp
    · have e2 := of_decide_eq_false e2
      walk_at "rd"
      refine rd_ite (fun e3 => ?_) (fun e3 => ?_)
      · have e3 := of_decide_eq_true e3
        walk_at "rd"
        rw [goOn_no (fun q => by have := q.2.2.1; omega)] at k
        exact k.none hp
      · have e3 := of_decide_eq_false e3
        walk_at "rd"
        refine ⟨mp, mx, e, e.span, rfl, hm, B.d2, ?_⟩
        walk_at "rd"
        have hs := comes_pos B.d1 B.s1
        refine rd_ite (fun e4 => ?_) (fun e4 => ?_)
        · have e4 := of_decide_eq_true e4
          walk_at "rd"
          rw [goOn_no (fun q => by have := q.2.2.2; omega)] at k
          exact k.none hp
        · have e4 := of_decide_eq_false e4
          walk_at "rd"
          rw [goOn_yes ⟨e1, by omega, by omega, by omega⟩] at k
          have m1 : max ((Ks209.comes e a : Int) - (hw.dwell : Int)) (e.t : Int) = ((max e.t (Ks209.comes e a - hw.dwell) : Nat) : Int) := by omega
          rw [m1]
          generalize max e.t (Ks209.comes e a - hw.dwell) = u at k ⊢
          refine ⟨Nat.le_of_ble_eq_true rfl, fun q hq => ?_⟩
          obtain ⟨hq1, nq⟩ := upd_none hq
          obtain ⟨hq2, _⟩ := upd_none hq1
          obtain ⟨hq3, _⟩ := upd_none hq2
          exact k _ q ((upd_ne (Ne.symm nq)).trans upd_same) upd_same hq3 (Fr1.refl.u.u.u.n hq3)
def sp_Cylinder_spark (K : PySem.W.Frag) (A : Adr) : Sp := fun vs H Q _ => ∃ (p dx : Addr) (n : Nat) (x : Ks209.Coil) (a : Nat) (mp tp : Addr) (e : Ks209.Here) (hw : Ks209.How) (adv fuel : Nat), vs = [.ref p, .ref mp, .int (a : Nat), .ref tp] ∧ H p = some (OY A dx n x) ∧ At A H mp tp e hw adv fuel ∧ Tells A H Q p dx n (sparkC hw e n a x).1 (sparkC hw e n a x).2
theorem spark_no {hw : Ks209.How} {e : Ks209.Here} {n a : Nat} {x : Ks209.Coil} (h : ¬ (x.st = .on ∧ (a < e.span ∨ 2304 < a))) : sparkC hw e n a x = (x, []) := by
  unfold sparkC
  simp only
  rw [if_neg h]
theorem spark_yes {hw : Ks209.How} {e : Ks209.Here} {n a u : Nat} {x : Ks209.Coil} (h : x.st = .on ∧ (a < e.span ∨ 2304 < a)) (hu : (if a < e.span then Ks209.comes e a else e.t) = u) : sparkC hw e n a x =
    if u ≤ x.on + hw.most then (⟨.done, x.on, u⟩, [.at_ 1 n u]) else ({ x with st := .done }, []) := by
  unfold sparkC
  simp only
  rw [if_pos h, hu]
theorem ok_Cylinder_spark (T : Txt K mg A) : FnOk P w K mg base CX0 2 A.f_Cylinder_spark A.d_Cylinder_spark ["self", "moment", "ahead", "timing"] (sp_Cylinder_spark K A) := by
  refine T.m_Cylinder_spark.fn.ok sc_Cylinder_spark (fun vs H Q E h => ?_) (fun cdv A0 outer s H vs Q E hr h => ?_)
  · obtain ⟨p, dx, n, x, a, mp, tp, e, hw, adv, fuel, rfl, _⟩ := h
    rfl
  obtain ⟨p, dx, n, x, a, mp, tp, e, hw, adv, fuel, rfl, h⟩ := h
  refine ⟨_, (pss_cons (ps_set (i := 4) sc_Cylinder_spark.nd rfl (Or.inl rfl) (pe_cmpR op_gt (pv 2) (pgi T.g_HALF) (nomark _)))
      (pss_cons (ps_if (pw_or (pt_cmpR op_ne (pe_fld (pv 0) rfl) (pgi T.g_ON) (nomark _)) (pw_or1 (pw_and (pt_cmpR op_ge (pv 2) (pe_fld (pv 1) rfl) (nomark _)) (pw_and1 (pt_not (pt_val (pv 4))))).pt)).pt (pss_one (ps_ret (pe_lst pa_nil))) pss_nil)
      (pss_cons (ps_fld (pv 0) (pgi T.g_DONE) rfl)
      (pss_cons (ps_set (i := 5) sc_Cylinder_spark.nd rfl (Or.inl rfl) (pe_ifExp (pt_val (pv 4)) (pe_fld (pv 1) rfl) (pe_meth (pv 1) T.cls_Moment T.m_Moment_time_of.mt (ok_Moment_time_of T) (hr.mono (by decide)) T.m_Moment_time_of.bd .nil pass0 (pa_cons (pv 2) pa_nil))))
      (pss_cons (ps_if (pt_cmpR op_gt (pe_op op_sub (pv 5) (pe_fld (pv 0) rfl)) (pe_fld (pv 3) rfl) (nomark _)) (pss_one (ps_ret (pe_lst pa_nil))) pss_nil)
      (pss_cons (ps_fld (pv 0) (pv 5) rfl)
      (pss_one (ps_ret (pe_lst (pa_cons (pgi T.g_SPARK) (pa_cons (pe_fld (pv 0) rfl) (pa_cons (pv 5) pa_nil)))))))))))), ?_⟩
  try dsimp only [cxK]
  obtain ⟨hp, B, k⟩ := h
  obtain ⟨mx, hm⟩ := B.m
  obtain ⟨tx, ht⟩ := B.t
  have nm := apart_YM hp hm
  have nt := apart_YT hp ht
  walk_at "rd"
  refine rd_ite (fun e1 => ?_) (fun e1 => ?_)
  · walk_at "rd"
    rw [spark_no (fun q => nd_t e1 (out1.mpr q.1))] at k
    exact k.none hp
  · have e1 := out1.mp (nd_f e1)
    have s2 := B.s2
    walk_at "rd"
    refine rd_ite (fun e2 => ?_) (fun e2 => ?_)
    · have e2 := of_decide_eq_true e2
      walk_at "rd"
      refine rd_ite (fun e3 => ?_) (fun e3 => ?_)
      · have e3 := nd_t e3
        walk_at "rd"
        rw [spark_no (fun q => by have := q.2; omega)] at k
        exact k.none hp
      · have e3 := nd_f e3
        rw [spark_yes (u := e.t) ⟨e1, by omega⟩ (if_neg (by omega))] at k
        walk_at "rd"
        refine rd_ite (fun e4 => ?_) (fun e4 => absurd e3 (of_decide_eq_false e4))
        walk_at "rd"
        refine rd_ite (fun e5 => ?_) (fun e5 => ?_)
        · have e5 := of_decide_eq_true e5
          rw [if_neg (by omega)] at k
          walk_at "rd"
          refine ⟨Nat.zero_le _, fun q hq => ?_⟩
          obtain ⟨hq1, nq⟩ := upd_none hq
          exact k _ q ((upd_ne (Ne.symm nq)).trans upd_same) upd_same hq1 (Fr1.refl.u.n hq1)
        · have e5 := of_decide_eq_false e5
          rw [if_pos (by omega)] at k
          walk_at "rd"
          refine ⟨Nat.le_of_ble_eq_true rfl, fun q hq => ?_⟩
          obtain ⟨hq1, nq⟩ := upd_none hq
          obtain ⟨hq2, _⟩ := upd_none hq1
          exact k _ q ((upd_ne (Ne.symm nq)).trans upd_same) upd_same hq2 (Fr1.refl.u.u.n hq2)
    · have e2 := of_decide_eq_false e2
      rw [spark_yes (u := Ks209.comes e a) ⟨e1, by omega⟩ (if_pos (by omega))] at k
      walk_at "rd"
      refine rd_ite (fun e4 => absurd (of_decide_eq_true e4) (by omega)) (fun e4 => ?_)
      walk_at "rd"
      refine ⟨mp, mx, e, a, rfl, (upd_ne nm).trans hm, B.d2, ?_⟩
      walk_at "rd"
      refine rd_ite (fun e5 => ?_) (fun e5 => ?_)
      · have e5 := of_decide_eq_true e5
        rw [if_neg (by omega)] at k
        walk_at "rd"
        refine ⟨Nat.zero_le _, fun q hq => ?_⟩
        obtain ⟨hq1, nq⟩ := upd_none hq
        exact k _ q ((upd_ne (Ne.symm nq)).trans upd_same) upd_same hq1 (Fr1.refl.u.n hq1)
      · have e5 := of_decide_eq_false e5
        rw [if_pos (by omega)] at k
        walk_at "rd"
        refine ⟨Nat.le_of_ble_eq_true rfl, fun q hq => ?_⟩
        obtain ⟨hq1, nq⟩ := upd_none hq
        obtain ⟨hq2, _⟩ := upd_none hq1
        exact k _ q ((upd_ne (Ne.symm nq)).trans upd_same) upd_same hq2 (Fr1.refl.u.u.n hq2)
def sp_Cylinder_feed (K : PySem.W.Frag) (A : Adr) : Sp := fun vs H Q _ => ∃ (p dx : Addr) (n : Nat) (x : Ks209.Coil) (mp tp : Addr) (e : Ks209.Here) (hw : Ks209.How) (adv fuel : Nat), vs = [.ref p, .ref mp, .ref tp] ∧ H p = some (OY A dx n x) ∧ At A H mp tp e hw adv fuel ∧ Tells A H Q p dx n x (Ks209.valveAt e fuel n)
theorem ok_Cylinder_feed (T : Txt K mg A) : FnOk P w K mg base CX0 2 A.f_Cylinder_feed A.d_Cylinder_feed ["self", "moment", "timing"] (sp_Cylinder_feed K A) := by
  refine T.m_Cylinder_feed.fn.ok sc_Cylinder_feed (fun vs H Q E h => ?_) (fun cdv A0 outer s H vs Q E hr h => ?_)
  · obtain ⟨p, dx, n, x, mp, tp, e, hw, adv, fuel, rfl, _⟩ := h
    rfl
  obtain ⟨p, dx, n, x, mp, tp, e, hw, adv, fuel, rfl, h⟩ := h
  refine ⟨_, (pss_cons (ps_set (i := 3) sc_Cylinder_feed.nd rfl (Or.inl rfl) (pe_meth (pv 1) T.cls_Moment T.m_Moment_ahead.mt (ok_Moment_ahead T) (hr.mono (by decide)) T.m_Moment_ahead.bd .nil pass0 (pa_cons (pe_op op_add (pe_op op_mul (pgi T.g_QUARTER) (pe_fld (pv 0) rfl)) (pgi T.g_VALVE_BASE)) pa_nil)))
      (pss_cons (ps_if (pw_or (pt_cmpR op_ge (pv 3) (pe_fld (pv 1) rfl) (nomark _)) (pw_or1 (pt_cmpR op_eq (pe_fld (pv 2) rfl) pe_int (nomark _)))).pt (pss_one (ps_ret (pe_lst pa_nil))) pss_nil)
      (pss_cons (ps_set (i := 4) sc_Cylinder_feed.nd rfl (Or.inl rfl) (pe_meth (pv 1) T.cls_Moment T.m_Moment_time_of.mt (ok_Moment_time_of T) (hr.mono (by decide)) T.m_Moment_time_of.bd .nil pass0 (pa_cons (pv 3) pa_nil)))
      (pss_one (ps_ret (pe_lst (pa_cons (pgi T.g_VALVE_OPENS) (pa_cons (pe_fld (pv 0) rfl) (pa_cons (pv 4) (pa_cons (pgi T.g_VALVE_CLOSES) (pa_cons (pe_fld (pv 0) rfl) (pa_cons (pe_op op_add (pv 4) (pe_fld (pv 2) rfl)) pa_nil)))))))))))), ?_⟩
  try dsimp only [cxK]
  obtain ⟨hp, B, k⟩ := h
  obtain ⟨mx, hm⟩ := B.m
  obtain ⟨tx, ht⟩ := B.t
  have nm := apart_YM hp hm
  have nt := apart_YT hp ht
  walk_at "rd"
  refine ⟨mp, mx, e, _, rfl, hm, ?_⟩
  rw [ahead_valve]
  walk_at "rd"
  refine rd_ite (fun e1 => ?_) (fun e1 => ?_)
  · have e1 := of_decide_eq_true e1
    walk_at "rd"
    have q : Ks209.valveAt e fuel n = [] := by
      unfold Ks209.valveAt
      rw [if_neg (by omega)]
    rw [q] at k
    exact k.none hp
  · have e1 := of_decide_eq_false e1
    walk_at "rd"
    refine rd_ite (fun e2 => ?_) (fun e2 => ?_)
    · have e2 := of_decide_eq_true e2
      walk_at "rd"
      have q : Ks209.valveAt e fuel n = [] := by
        unfold Ks209.valveAt
        rw [if_neg (by omega)]
      rw [q] at k
      exact k.none hp
    · have e2 := of_decide_eq_false e2
      walk_at "rd"
      refine ⟨mp, mx, e, _, rfl, hm, B.d2, ?_⟩
      walk_at "rd"
      refine ⟨Nat.le_of_ble_eq_true rfl, fun q hq => ?_⟩
      have q1 : Ks209.valveAt e fuel n = [.at_ 3 n (Ks209.comes e (Ks209.ahead e.p (Ks209.valveOf n))), .at_ 4 n (Ks209.comes e (Ks209.ahead e.p (Ks209.valveOf n)) + fuel)] := by
        unfold Ks209.valveAt
        rw [if_pos ⟨by omega, by omega⟩]
      rw [q1] at k
      exact k _ q ((upd_ne (ne_of_none hp hq)).trans hp) upd_same hq (Fr1.refl.n hq)
def sp_Cylinder_follow (K : PySem.W.Frag) (A : Adr) : Sp := fun vs H Q _ => ∃ (p dx : Addr) (n : Nat) (x : Ks209.Coil) (mp tp : Addr) (e : Ks209.Here) (hw : Ks209.How) (adv fuel : Nat), vs = [.ref p, .ref mp, .ref tp] ∧ H p = some (OY A dx n x) ∧ At A H mp tp e hw adv fuel ∧ Tells A H Q p dx n (coilF hw e adv n x) (coilG hw e adv fuel n x)
theorem ev_line {l : List Ks209.Ev} (h : l.length ≤ 20) : ((evI l).map V.int).length ≤ 60 := by
  rw [List.length_map, evI_len]
  omega
theorem coilF_eq (hw : Ks209.How) (e : Ks209.Here) (adv n : Nat) (x : Ks209.Coil) : coilF hw e adv n x = (sparkC hw e n (Ks209.ahead e.p (Ks209.sparkOf adv n)) (goOn hw e n (Ks209.ahead e.p (Ks209.sparkOf adv n)) (rest1 (Ks209.ahead e.p (Ks209.sparkOf adv n)) x)).1).1 := by
  unfold coilF
  rw [coil_parts]
theorem coilG_eq (hw : Ks209.How) (e : Ks209.Here) (adv fuel n : Nat) (x : Ks209.Coil) : coilG hw e adv fuel n x = ((goOn hw e n (Ks209.ahead e.p (Ks209.sparkOf adv n)) (rest1 (Ks209.ahead e.p (Ks209.sparkOf adv n)) x)).2 ++
    (sparkC hw e n (Ks209.ahead e.p (Ks209.sparkOf adv n)) (goOn hw e n (Ks209.ahead e.p (Ks209.sparkOf adv n)) (rest1 (Ks209.ahead e.p (Ks209.sparkOf adv n)) x)).1).2) ++ Ks209.valveAt e fuel n := by
  unfold coilG
  rw [coil_parts]
theorem go_len (hw : Ks209.How) (e : Ks209.Here) (n a : Nat) (x : Ks209.Coil) : (goOn hw e n a x).2.length ≤ 2 := by
  unfold goOn
  simp only
  split
  · exact Nat.le_refl 2
  · exact Nat.zero_le 2
theorem spark_len (hw : Ks209.How) (e : Ks209.Here) (n a : Nat) (x : Ks209.Coil) : (sparkC hw e n a x).2.length ≤ 1 := by
  by_cases h : x.st = .on ∧ (a < e.span ∨ 2304 < a)
  · rw [spark_yes h rfl]
    generalize (if a < e.span then Ks209.comes e a else e.t) = u
    split
    · exact Nat.le_refl 1
    · exact Nat.zero_le 1
  · rw [spark_no h]
    exact Nat.zero_le 1
theorem valve_len (e : Ks209.Here) (fuel n : Nat) : (Ks209.valveAt e fuel n).length ≤ 2 := by
  unfold Ks209.valveAt
  split
  · exact Nat.le_refl 2
  · exact Nat.zero_le 2
theorem lst_ne {C dx : Addr} {xs : List V} {fs : List (Str × V)} : HO.lst xs ≠ HO.ins C dx fs := fun e => nomatch e
theorem At.lst {H : Hp} {mp tp q : Addr} {e : Ks209.Here} {hw : Ks209.How} {adv fuel : Nat} {xs ys : List V} (B : At A H mp tp e hw adv fuel) (h : H q = some (.lst xs)) : At A (upd H q (.lst ys)) mp tp e hw adv fuel := by
  obtain ⟨mx, hm⟩ := B.m
  obtain ⟨tx, ht⟩ := B.t
  exact ⟨⟨mx, (upd_ne (ne_of hm h (Ne.symm lst_ne))).trans hm⟩, ⟨tx, (upd_ne (ne_of ht h (Ne.symm lst_ne))).trans ht⟩, B.d1, B.d2, B.s1, B.s2, B.a1⟩
theorem ok_Cylinder_follow (T : Txt K mg A) : FnOk P w K mg base CX0 3 A.f_Cylinder_follow A.d_Cylinder_follow ["self", "moment", "timing"] (sp_Cylinder_follow K A) := by
  refine T.m_Cylinder_follow.fn.ok sc_Cylinder_follow (fun vs H Q E h => ?_) (fun cdv A0 outer s H vs Q E hr h => ?_)
  · obtain ⟨p, dx, n, x, mp, tp, e, hw, adv, fuel, rfl, _⟩ := h
    rfl
  obtain ⟨p, dx, n, x, mp, tp, e, hw, adv, fuel, rfl, h⟩ := h
  refine ⟨_, (pss_cons (ps_set (i := 3) sc_Cylinder_follow.nd rfl (Or.inl rfl) (pe_meth (pv 1) T.cls_Moment T.m_Moment_ahead.mt (ok_Moment_ahead T) (hr.mono (by decide)) T.m_Moment_ahead.bd .nil pass0 (pa_cons (pe_op op_sub (pe_op op_add (pe_op op_mul (pgi T.g_QUARTER) (pe_fld (pv 0) rfl)) (pgi T.g_SPARK_BASE)) (pe_fld (pv 2) rfl)) pa_nil)))
      (pss_cons (ps_expr (pe_meth (pv 0) T.cls_Cylinder T.m_Cylinder_rest.mt (ok_Cylinder_rest T) (hr.mono (by decide)) T.m_Cylinder_rest.bd .nil pass0 (pa_cons (pv 3) pa_nil)))
      (pss_cons (ps_set (i := 4) sc_Cylinder_follow.nd rfl (Or.inl rfl) (pe_meth (pv 0) T.cls_Cylinder T.m_Cylinder_go_on.mt (ok_Cylinder_go_on T) (hr.mono (by decide)) T.m_Cylinder_go_on.bd .nil pass0 (pa_cons (pv 1) (pa_cons (pv 3) (pa_cons (pv 2) pa_nil)))))
      (pss_cons (ps_expr (pe_bm PySem.F.plainAttrs_list PySem.F.slot_list_extend PySem.F.type_list_extend mt_extend (pv 4) (pa_cons (pe_meth (pv 0) T.cls_Cylinder T.m_Cylinder_spark.mt (ok_Cylinder_spark T) (hr.mono (by decide)) T.m_Cylinder_spark.bd .nil pass0 (pa_cons (pv 1) (pa_cons (pv 3) (pa_cons (pv 2) pa_nil)))) pa_nil)))
      (pss_cons (ps_expr (pe_bm PySem.F.plainAttrs_list PySem.F.slot_list_extend PySem.F.type_list_extend mt_extend (pv 4) (pa_cons (pe_meth (pv 0) T.cls_Cylinder T.m_Cylinder_feed.mt (ok_Cylinder_feed T) (hr.mono (by decide)) T.m_Cylinder_feed.bd .nil pass0 (pa_cons (pv 1) (pa_cons (pv 2) pa_nil))) pa_nil)))
      (pss_one (ps_ret (pv 4)))))))), ?_⟩
  try dsimp only [cxK]
  obtain ⟨hp, B, k⟩ := h
  obtain ⟨mx, hm⟩ := B.m
  obtain ⟨tx, ht⟩ := B.t
  walk_at "rd"
  refine ⟨mp, mx, e, _, rfl, hm, ?_⟩
  rw [ahead_spark B.a1]
  walk_at "rd"
  refine ⟨p, dx, n, x, _, rfl, hp, fun H1 h1 f1 => ?_⟩
  have B1 := B.keep hp f1
  rw [coilF_eq, coilG_eq] at k
  generalize Ks209.ahead e.p (Ks209.sparkOf adv n) = a at k h1 ⊢
  generalize rest1 a x = x1 at k h1
  walk_at "rd"
  refine ⟨p, dx, n, x1, a, mp, tp, e, hw, adv, fuel, rfl, h1, B1, fun H2 q2 h2 l2 n2 f2 => ?_⟩
  have B2 := B1.keep h1 f2
  walk_at "rd"
  refine ⟨p, dx, n, _, a, mp, tp, e, hw, adv, fuel, rfl, h2, B2, fun H3 q3 h3 l3 n3 f3 => ?_⟩
  have B3 := B2.keep h2 f3
  have l23 := f3 _ _ l2 (ne_of l2 h2 lst_ne)
  have z1 := go_len hw e n a x1
  have z2 := spark_len hw e n a (goOn hw e n a x1).1
  have z3 := valve_len e fuel n
  have hq2 := f1.free h1 n2
  have n32 : p ≠ q2 := ne_of h3 l23 (Ne.symm lst_ne)
  walk_at "rd"
  refine rd_ext l23 l3 (by rw [List.length_map, List.length_map, evI_len, evI_len, line_is]; omega) ?_
  have B4 := B3.lst l23 (ys := (evI (goOn hw e n a x1).2).map V.int ++ (evI (sparkC hw e n a (goOn hw e n a x1).1).2).map V.int)
  walk_at "rd"
  refine ⟨p, dx, n, _, mp, tp, e, hw, adv, fuel, rfl, (upd_ne n32).trans h3, B4, fun H5 q5 h5 l5 n5 f5 => ?_⟩
  have l45 := f5 _ _ upd_same (Ne.symm n32)
  walk_at "rd"
  refine rd_ext l45 l5 (by rw [List.length_append, List.length_map, List.length_map, List.length_map, evI_len, evI_len, evI_len, line_is]; omega) ?_
  walk_at "rd"
  refine k _ q2 ((upd_ne n32).trans h5) ?_ hq2 (((((f1.trans f2).trans f3).n hq2).trans f5).n hq2)
  rw [upd_same, evI_app, evI_app, List.map_append, List.map_append]
end
end Et

set_option Elab.async false
set_option linter.all false
set_option maxRecDepth 100000
set_option maxHeartbeats 4000000
namespace Et
open PySem PySem.Spec PyProof.Rows L2
open PySem.W (Codec)
local macro_rules | `(tactic| walk_at "at") => `(tactic| first | assumption | exact upd_same | (refine (upd_ne (by assumption)).trans ?_; walk_at "at"))
local macro_rules | `(tactic| walk_at "rd") => `(tactic| repeat (first
  | with_reducible refine rd_seq ?_
  | with_reducible refine rd_ret ?_
  | with_reducible refine rd_retN ?_
  | with_reducible refine rd_drop ?_
  | with_reducible refine rd_asg ?_
  | with_reducible refine rd_name ?_
  | with_reducible refine rd_next ?_
  | with_reducible refine rd_if ?_
  | with_reducible refine rd_test ?_
  | with_reducible refine rd_tB ?_
  | with_reducible refine rd_and ?_
  | with_reducible refine rd_or ?_
  | with_reducible refine rd_not ?_
  | with_reducible refine rd_andV ?_
  | with_reducible refine rd_orV ?_
  | with_reducible refine rd_notV ?_
  | with_reducible refine rd_ifE ?_
  | with_reducible refine rd_op ?_
  | with_reducible refine rd_chain ?_
  | with_reducible refine rd_C ?_
  | ((with_reducible refine rd_varE ?_); refine ⟨_, rfl, ?_⟩)
  | with_reducible refine rd_rI0 ?_
  | with_reducible refine rd_eqI ?_
  | with_reducible refine rd_neI ?_
  | with_reducible refine rd_get ?_
  | with_reducible refine rd_put ?_
  | with_reducible refine rd_met ?_
  | with_reducible refine rd_cal ?_
  | with_reducible refine rd_mak ?_
  | with_reducible refine rd_cb ?_
  | with_reducible refine rd_nil ?_
  | with_reducible refine rd_cons ?_
  | with_reducible refine rd_lst ?_
  | with_reducible refine rd_tup ?_
  | with_reducible refine rd_sl ?_
  | with_reducible refine rd_part ?_
  | with_reducible refine rd_nopart ?_
  | with_reducible refine rd_bm ?_
  | with_reducible refine rd_bl ?_
  | with_reducible refine rd_blV ?_
  | with_reducible refine rd_intV ?_
  | with_reducible refine iteT ?_
  | with_reducible refine iteF ?_
  | with_reducible refine rd_itNT ?_
  | with_reducible refine rd_itNF ?_
  | with_reducible refine rd_for ?_
  | with_reducible refine rd_lcL ?_
  | with_reducible refine rd_lcR ?_
  | with_reducible refine rd_yes ?_
  | with_reducible refine rd_listT (SqL.of (by walk_at "at")) ?_
  | with_reducible refine rd_isNn ?_
  | with_reducible refine rd_isNi ?_
  | with_reducible refine rd_notNn ?_
  | with_reducible refine rd_notNi ?_
  | with_reducible refine rd_eqNi ?_
  | with_reducible refine rd_max2 ?_
  | with_reducible refine rd_min2 ?_
  | with_reducible refine rd_mulL (by decide) ?_
  | with_reducible refine rd_div (by decide) ?_
  | with_reducible refine rd_mod (by decide) ?_
  | with_reducible refine ⟨_, fld_Crank_last_time (by assumption) (by walk_at "at"), ?_⟩
  | with_reducible refine ⟨_, st_Crank_last_time (by assumption) (by walk_at "at"), ?_⟩
  | with_reducible refine ⟨_, fld_Crank_interval (by assumption) (by walk_at "at"), ?_⟩
  | with_reducible refine ⟨_, st_Crank_interval (by assumption) (by walk_at "at"), ?_⟩
  | with_reducible refine ⟨_, fld_Crank_certainty (by assumption) (by walk_at "at"), ?_⟩
  | with_reducible refine ⟨_, st_Crank_certainty (by assumption) (by walk_at "at"), ?_⟩
  | with_reducible refine ⟨_, fld_Crank_place (by assumption) (by walk_at "at"), ?_⟩
  | with_reducible refine ⟨_, st_Crank_place (by assumption) (by walk_at "at"), ?_⟩
  | with_reducible refine ⟨_, fld_Crank_turn (by assumption) (by walk_at "at"), ?_⟩
  | with_reducible refine ⟨_, st_Crank_turn (by assumption) (by walk_at "at"), ?_⟩
  | with_reducible refine ⟨_, fld_Crank_cam_told (by assumption) (by walk_at "at"), ?_⟩
  | with_reducible refine ⟨_, st_Crank_cam_told (by assumption) (by walk_at "at"), ?_⟩
  | with_reducible refine ⟨rc_Crank (by walk_at "at"), ?_⟩
  | with_reducible refine ⟨_, fld_Cylinder_number (by assumption) (by walk_at "at"), ?_⟩
  | with_reducible refine ⟨_, st_Cylinder_number (by assumption) (by walk_at "at"), ?_⟩
  | with_reducible refine ⟨_, fld_Cylinder_phase (by assumption) (by walk_at "at"), ?_⟩
  | with_reducible refine ⟨_, st_Cylinder_phase (by assumption) (by walk_at "at"), ?_⟩
  | with_reducible refine ⟨_, fld_Cylinder_went_on (by assumption) (by walk_at "at"), ?_⟩
  | with_reducible refine ⟨_, st_Cylinder_went_on (by assumption) (by walk_at "at"), ?_⟩
  | with_reducible refine ⟨_, fld_Cylinder_off (by assumption) (by walk_at "at"), ?_⟩
  | with_reducible refine ⟨_, st_Cylinder_off (by assumption) (by walk_at "at"), ?_⟩
  | with_reducible refine ⟨rc_Cylinder (by walk_at "at"), ?_⟩
  | with_reducible refine ⟨_, fld_Moment_now (by assumption) (by walk_at "at"), ?_⟩
  | with_reducible refine ⟨_, st_Moment_now (by assumption) (by walk_at "at"), ?_⟩
  | with_reducible refine ⟨_, fld_Moment_position (by assumption) (by walk_at "at"), ?_⟩
  | with_reducible refine ⟨_, st_Moment_position (by assumption) (by walk_at "at"), ?_⟩
  | with_reducible refine ⟨_, fld_Moment_pace (by assumption) (by walk_at "at"), ?_⟩
  | with_reducible refine ⟨_, st_Moment_pace (by assumption) (by walk_at "at"), ?_⟩
  | with_reducible refine ⟨_, fld_Moment_span (by assumption) (by walk_at "at"), ?_⟩
  | with_reducible refine ⟨_, st_Moment_span (by assumption) (by walk_at "at"), ?_⟩
  | with_reducible refine ⟨rc_Moment (by walk_at "at"), ?_⟩
  | with_reducible refine ⟨_, fld_Timing_dwell (by assumption) (by walk_at "at"), ?_⟩
  | with_reducible refine ⟨_, st_Timing_dwell (by assumption) (by walk_at "at"), ?_⟩
  | with_reducible refine ⟨_, fld_Timing_most (by assumption) (by walk_at "at"), ?_⟩
  | with_reducible refine ⟨_, st_Timing_most (by assumption) (by walk_at "at"), ?_⟩
  | with_reducible refine ⟨_, fld_Timing_advance (by assumption) (by walk_at "at"), ?_⟩
  | with_reducible refine ⟨_, st_Timing_advance (by assumption) (by walk_at "at"), ?_⟩
  | with_reducible refine ⟨_, fld_Timing_fuel (by assumption) (by walk_at "at"), ?_⟩
  | with_reducible refine ⟨_, st_Timing_fuel (by assumption) (by walk_at "at"), ?_⟩
  | with_reducible refine ⟨rc_Timing (by walk_at "at"), ?_⟩
  | with_reducible refine ⟨_, fld_Engine_dwell (by assumption) (by walk_at "at"), ?_⟩
  | with_reducible refine ⟨_, st_Engine_dwell (by assumption) (by walk_at "at"), ?_⟩
  | with_reducible refine ⟨_, fld_Engine_most (by assumption) (by walk_at "at"), ?_⟩
  | with_reducible refine ⟨_, st_Engine_most (by assumption) (by walk_at "at"), ?_⟩
  | with_reducible refine ⟨_, fld_Engine_advances (by assumption) (by walk_at "at"), ?_⟩
  | with_reducible refine ⟨_, st_Engine_advances (by assumption) (by walk_at "at"), ?_⟩
  | with_reducible refine ⟨_, fld_Engine_fuels (by assumption) (by walk_at "at"), ?_⟩
  | with_reducible refine ⟨_, st_Engine_fuels (by assumption) (by walk_at "at"), ?_⟩
  | with_reducible refine ⟨_, fld_Engine_load_now (by assumption) (by walk_at "at"), ?_⟩
  | with_reducible refine ⟨_, st_Engine_load_now (by assumption) (by walk_at "at"), ?_⟩
  | with_reducible refine ⟨_, fld_Engine_crank (by assumption) (by walk_at "at"), ?_⟩
  | with_reducible refine ⟨_, st_Engine_crank (by assumption) (by walk_at "at"), ?_⟩
  | with_reducible refine ⟨_, fld_Engine_cylinders (by assumption) (by walk_at "at"), ?_⟩
  | with_reducible refine ⟨_, st_Engine_cylinders (by assumption) (by walk_at "at"), ?_⟩
  | with_reducible refine ⟨rc_Engine (by walk_at "at"), ?_⟩
  ))

section
variable {P : Program} {w : World} {K : PySem.W.Frag} {mg : Str → Option Value} {base : Heap} {A : Adr} {zz : Addr}

/-! ### the four cylinders -/
structure CylsAt (A : Adr) (H : Hp) (as : List Addr) (xs : List Ks209.Coil) : Prop where
  len : as.length = xs.length
  at_ : ∀ (j : Nat) (a : Addr) (x : Ks209.Coil), as[j]? = some a → xs[j]? = some x → ∃ dx, H a = some (OY A dx j x)
theorem CylsAt.get {H : Hp} {as : List Addr} {xs : List Ks209.Coil} (B : CylsAt A H as xs) {j : Nat} {a : Addr} (h : as[j]? = some a) : ∃ x dx, xs[j]? = some x ∧ H a = some (OY A dx j x) := by
  have l := (List.getElem?_eq_some_iff.mp h).1
  have l2 : j < xs.length := by
    have := B.len
    omega
  obtain ⟨dx, q⟩ := B.at_ j a _ h (List.getElem?_eq_getElem l2)
  exact ⟨_, dx, List.getElem?_eq_getElem l2, q⟩
theorem OY_num {dx dy : Addr} {i j : Nat} {x y : Ks209.Coil} (h : OY A dx i x = OY A dy j y) : i = j := by
  injection h with _ _ e
  have q := congrArg (fun l : List (Str × V) => l.lookup ("number" : Str)) e
  have q : some (V.int (i : Nat)) = some (V.int (j : Nat)) := q
  injection q with q
  injection q with q
  omega
theorem CylsAt.ix {H : Hp} {as : List Addr} {xs : List Ks209.Coil} (B : CylsAt A H as xs) {i j : Nat} {a : Addr} (h : as[i]? = some a) (h' : as[j]? = some a) : i = j := by
  obtain ⟨x, dx, _, e⟩ := B.get h
  obtain ⟨y, dy, _, e'⟩ := B.get h'
  rw [e] at e'
  exact OY_num (Option.some.inj e')
theorem CylsAt.step {H H' : Hp} {as : List Addr} {xs : List Ks209.Coil} {i : Nat} {a dx : Addr} {x' : Ks209.Coil} (B : CylsAt A H as xs) (ha : as[i]? = some a) (h' : H' a = some (OY A dx i x')) (f : Fr1 a H H') : CylsAt A H' as (xs.set i x') := by
  refine ⟨by rw [List.length_set]; exact B.len, fun j b y hb hy => ?_⟩
  by_cases e : j = i
  · subst e
    have q : b = a := Option.some.inj (hb.symm.trans ha)
    subst q
    obtain ⟨x, _, hx, _⟩ := B.get ha
    rw [List.getElem?_set_self (List.getElem?_eq_some_iff.mp hx).1] at hy
    cases hy
    exact ⟨dx, h'⟩
  · rw [List.getElem?_set_ne (fun q => e q.symm)] at hy
    obtain ⟨dy, q⟩ := B.at_ j b y hb hy
    exact ⟨dy, f b _ q (fun z => e (B.ix (z ▸ hb) ha))⟩
theorem CylsAt.keep {H H' : Hp} {as : List Addr} {xs : List Ks209.Coil} (B : CylsAt A H as xs) (f : ∀ a ∈ as, ∀ o, H a = some o → H' a = some o) : CylsAt A H' as xs := by
  refine ⟨B.len, fun j b y hb hy => ?_⟩
  obtain ⟨dy, q⟩ := B.at_ j b y hb hy
  exact ⟨dy, f b (List.mem_of_getElem? hb) _ q⟩
theorem CylsAt.out {H : Hp} {as : List Addr} {xs : List Ks209.Coil} {b : Addr} {o : HO} (B : CylsAt A H as xs) (h : H b = some o) (ho : ∀ dx j x, o ≠ OY A dx j x) : b ∉ as := by
  intro m
  obtain ⟨j, hj⟩ := List.getElem?_of_mem m
  obtain ⟨x, dx, _, e⟩ := B.get hj
  rw [h] at e
  exact ho _ _ _ (Option.some.inj e)
/-- all but those at as is as it was -/
def FrS (as : List Addr) (H H' : Hp) : Prop := ∀ b o, H b = some o → b ∉ as → H' b = some o
theorem CylsAt.kp {H H' : Hp} {as : List Addr} {xs ys : List Ks209.Coil} (B : CylsAt A H as xs) (B' : CylsAt A H' as ys) (f : FrS as H H') : Kp H H' := fun b o h => by
  by_cases m : b ∈ as
  · obtain ⟨j, hj⟩ := List.getElem?_of_mem m
    obtain ⟨x, dx, _, e⟩ := B.get hj
    obtain ⟨y, dy, _, e'⟩ := B'.get hj
    rw [h] at e
    cases e
    exact ⟨_, e', fun n => n.elim⟩
  · exact ⟨o, f b o h m, fun _ => rfl⟩
/-! ### the engine -/
structure EngAt (A : Adr) (zz : Addr) (H : Hp) (ep : Addr) (s : Ks209.Abs) (edx pa pf cp lp cdx : Addr) (c : Ck) (as : List Addr) : Prop where
  e : H ep = some (OE A edx s.h.dwell s.h.most pa pf s.load cp lp)
  a : H pa = some (.lst (s.h.advance.map V.int))
  f : H pf = some (.lst (s.h.fuel.map V.int))
  k : H cp = some (OC A cdx c)
  r : RelCk c s.ck
  l : H lp = some (.lst (as.map V.ref))
  y : CylsAt A H as s.coils
  n : as.length = 4
  ld : s.load ≤ 3840
  ok : Ks209.okHow s.h = true
  la : s.h.advance.length = 256
  lf : s.h.fuel.length = 256
  zn : pa ≠ zz ∧ pf ≠ zz ∧ lp ≠ zz
def Eng (A : Adr) (zz : Addr) (H : Hp) (ep : Addr) (s : Ks209.Abs) : Prop := ∃ edx pa pf cp lp cdx c as, EngAt A zz H ep s edx pa pf cp lp cdx c as
section
variable {H H' : Hp} {ep edx pa pf cp lp cdx : Addr} {s : Ks209.Abs} {c : Ck} {as : List Addr}
theorem EngAt.same (B : EngAt A zz H ep s edx pa pf cp lp cdx c as) (f : Same H H') : EngAt A zz H' ep s edx pa pf cp lp cdx c as :=
  ⟨f _ _ B.e, f _ _ B.a, f _ _ B.f, f _ _ B.k, B.r, f _ _ B.l, B.y.keep fun a _ o h => f a o h, B.n, B.ld, B.ok, B.la, B.lf, B.zn⟩
theorem EngAt.ec (B : EngAt A zz H ep s edx pa pf cp lp cdx c as) : ep ≠ cp := ne_of B.e B.k (ins_en "dwell" rfl rfl)
theorem EngAt.eo (B : EngAt A zz H ep s edx pa pf cp lp cdx c as) : ep ∉ as := B.y.out B.e fun _ _ _ => ins_en "dwell" rfl rfl
theorem EngAt.co (B : EngAt A zz H ep s edx pa pf cp lp cdx c as) : cp ∉ as := B.y.out B.k fun _ _ _ => ins_en "last_time" rfl rfl
/-- the crank alone is another -/
theorem EngAt.crank {c' : Ck} {k' : Ks207.Abs} (B : EngAt A zz H ep s edx pa pf cp lp cdx c as) (h : H' cp = some (OC A cdx c')) (f : Fr1 cp H H') (r : RelCk c' k') : EngAt A zz H' ep { s with ck := k' } edx pa pf cp lp cdx c' as :=
  ⟨f _ _ B.e B.ec, f _ _ B.a (ne_of B.a B.k lst_ne), f _ _ B.f (ne_of B.f B.k lst_ne), h, r, f _ _ B.l (ne_of B.l B.k lst_ne), B.y.keep fun a m o q => f a o q (fun z => B.co (z ▸ m)), B.n, B.ld, B.ok, B.la, B.lf, B.zn⟩
/-- the cylinders alone are others -/
theorem EngAt.cyls {xs : List Ks209.Coil} (B : EngAt A zz H ep s edx pa pf cp lp cdx c as) (y : CylsAt A H' as xs) (f : FrS as H H') : EngAt A zz H' ep { s with coils := xs } edx pa pf cp lp cdx c as :=
  ⟨f _ _ B.e B.eo, f _ _ B.a (B.y.out B.a fun _ _ _ => lst_ne), f _ _ B.f (B.y.out B.f fun _ _ _ => lst_ne), f _ _ B.k B.co, B.r, f _ _ B.l (B.y.out B.l fun _ _ _ => lst_ne), y, B.n, B.ld, B.ok, B.la, B.lf, B.zn⟩
end
def sp_Engine_may_come (K : PySem.W.Frag) (A : Adr) : Sp := fun vs H Q _ => ∃ (zz ep : Addr) (s : Ks209.Abs) (t : Nat) (edx pa pf cp lp cdx : Addr) (c : Ck) (as : List Addr), vs = [.ref ep, .int (t : Nat)] ∧ EngAt A zz H ep s edx pa pf cp lp cdx c as ∧ Q (.bl (decide (t < 4611686018427387904) && c.behind t)) H
theorem ok_Engine_may_come (T : Txt K mg A) : FnOk P w K mg base CX0 2 A.f_Engine_may_come A.d_Engine_may_come ["self", "t"] (sp_Engine_may_come K A) := by
  refine T.m_Engine_may_come.fn.ok sc_Engine_may_come (fun vs H Q E h => ?_) (fun cdv A0 outer s H vs Q E hr h => ?_)
  · obtain ⟨zz, ep, s, t, edx, pa, pf, cp, lp, cdx, c, as, rfl, _⟩ := h
    rfl
  obtain ⟨zz, ep, s, t, edx, pa, pf, cp, lp, cdx, c, as, rfl, h⟩ := h
  refine ⟨_, (pss_one (ps_ret (pe_and (pe_cmpR op_lt (pv 1) (pgi T.g_TIMES_END) (nomark _)) (pe_one (pe_meth (pe_fld (pv 0) rfl) T.cls_Crank T.m_Crank_comes_behind.mt (ok_Crank_comes_behind T) (hr.mono (by decide)) T.m_Crank_comes_behind.bd .nil pass0 (pa_cons (pv 1) pa_nil)))))), ?_⟩
  try dsimp only [cxK]
  obtain ⟨B, k⟩ := h
  have he := B.e
  have hc := B.k
  walk_at "rd"
  generalize hk : decide ((t : Int) < 4611686018427387904) = kk
  refine rd_ite (fun e => ?_) (fun e => ?_)
  · rw [e] at hk
    have e := of_decide_eq_true hk
    walk_at "rd"
    refine ⟨cp, cdx, c, t, rfl, hc, ?_⟩
    refine qb k ?_
    have e' : t < 4611686018427387904 := by omega
    simp only [e', decide_true, Bool.true_and]
  · rw [e] at hk
    have e := of_decide_eq_false hk
    refine qb k ?_
    have e' : ¬ t < 4611686018427387904 := by omega
    simp only [e', decide_false, Bool.false_and]
/-- what the cylinders tell all together -/
def TellsAll (A : Adr) (H : Hp) (Q : VK) (as : List Addr) (xs : List Ks209.Coil) (l : List Ks209.Ev) : Prop :=
  ∀ (H' : Hp) (q : Addr), CylsAt A H' as xs → H' q = some (.lst ((evI l).map V.int)) → H q = none → FrS as H H' → Q (.ref q) H'
theorem map_ref {as : List Addr} {i : Nat} {y : V} (h : (as.map V.ref)[i]? = some y) : ∃ a, as[i]? = some a ∧ y = .ref a := by
  rw [List.getElem?_map] at h
  cases e : as[i]? with
  | none =>
    rw [e] at h
    cases h
  | some a =>
    rw [e] at h
    exact ⟨a, rfl, (Option.some.inj h).symm⟩
theorem evTo_len {g : Nat → Ks209.Coil → List Ks209.Ev} (hg : ∀ j x, (g j x).length ≤ 5) {xs : List Ks209.Coil} : ∀ {i : Nat}, i ≤ xs.length → (evTo g i xs).length ≤ 5 * i
  | 0, _ => by rw [evTo_zero]; exact Nat.le_refl 0
  | i + 1, h => by
    have ih := evTo_len hg (xs := xs) (i := i) (by omega)
    rw [evTo_succ (List.getElem?_eq_getElem (show i < xs.length by omega)), List.length_append]
    have := hg i xs[i]
    omega
structure LoopAt (A : Adr) (H0 H' : Hp) (q : Addr) (as : List Addr) (f : Nat → Ks209.Coil → Ks209.Coil) (g : Nat → Ks209.Coil → List Ks209.Ev) (xs : List Ks209.Coil) (i : Nat) : Prop where
  y : CylsAt A H' as (mapTo f i xs)
  l : H' q = some (.lst ((evI (evTo g i xs)).map V.int))
  fr : FrS as H0 H'
theorem LoopAt.next {H0 H' H2 : Hp} {q a dx : Addr} {as : List Addr} {f : Nat → Ks209.Coil → Ks209.Coil} {g : Nat → Ks209.Coil → List Ks209.Ev} {xs : List Ks209.Coil} {x : Ks209.Coil} {i : Nat} (L : LoopAt A H0 H' q as f g xs i)
    (hq : H0 q = none) (ha : as[i]? = some a) (hx : xs[i]? = some x) (h2 : H2 a = some (OY A dx i (f i x))) (f2 : Fr1 a H' H2) : H2 q = some (.lst ((evI (evTo g i xs)).map V.int)) ∧
    LoopAt A H0 (upd H2 q (.lst ((evI (evTo g i xs)).map V.int ++ (evI (g i x)).map V.int))) q as f g xs (i + 1) := by
  have ma : a ∈ as := List.mem_of_getElem? ha
  have y2 := L.y.step ha h2 f2
  rw [mapTo_set hx] at y2
  obtain ⟨x', dx', _, hax⟩ := L.y.get ha
  have hq2 : H2 q = some (.lst ((evI (evTo g i xs)).map V.int)) := f2 _ _ L.l (ne_of L.l hax lst_ne)
  refine ⟨hq2, y2.keep fun b m o h => ?_, ?_, fun b o h m => ?_⟩
  · have n : b ≠ q := by
      obtain ⟨j, hj⟩ := List.getElem?_of_mem m
      obtain ⟨z, dz, _, e⟩ := y2.get hj
      exact fun w => lst_ne (Option.some.inj (hq2.symm.trans (w ▸ e)))
    rw [upd_ne n]
    exact h
  · rw [upd_same, evTo_succ hx, evI_app, List.map_append]
  · rw [upd_ne (ne_of_none h hq)]
    exact f2 b o (L.fr b o h m) (fun z => m (z ▸ ma))
def sp_Engine_give_up_all (K : PySem.W.Frag) (A : Adr) : Sp := fun vs H Q _ => ∃ (zz ep : Addr) (s : Ks209.Abs) (t : Nat) (edx pa pf cp lp cdx : Addr) (c : Ck) (as : List Addr), vs = [.ref ep, .int (t : Nat)] ∧ EngAt A zz H ep s edx pa pf cp lp cdx c as ∧ TellsAll A H Q as (Ks209.idled s.coils t) (Ks209.softly s.coils t)
theorem ok_Engine_give_up_all (T : Txt K mg A) : FnOk P w K mg base CX0 2 A.f_Engine_give_up_all A.d_Engine_give_up_all ["self", "t"] (sp_Engine_give_up_all K A) := by
  refine T.m_Engine_give_up_all.fn.ok sc_Engine_give_up_all (fun vs H Q E h => ?_) (fun cdv A0 outer s H vs Q E hr h => ?_)
  · obtain ⟨zz, ep, s, t, edx, pa, pf, cp, lp, cdx, c, as, rfl, _⟩ := h
    rfl
  obtain ⟨zz, ep, s, t, edx, pa, pf, cp, lp, cdx, c, as, rfl, h⟩ := h
  refine ⟨_, (pss_cons (ps_set (i := 2) sc_Engine_give_up_all.nd rfl (Or.inl rfl) (pe_lst pa_nil))
      (pss_cons (ps_for PassesOwn.never rfl (pi_list (pe_fld (pv 0) rfl)) (pg_name (i := 3) sc_Engine_give_up_all.nd rfl (Or.inl rfl))
      (pss_one (ps_expr (pe_bm PySem.F.plainAttrs_list PySem.F.slot_list_extend PySem.F.type_list_extend mt_extend (pv 2) (pa_cons (pe_meth (pv 3) T.cls_Cylinder T.m_Cylinder_give_up.mt (ok_Cylinder_give_up T) (hr.mono (by decide)) T.m_Cylinder_give_up.bd .nil pass0 (pa_cons (pv 1) pa_nil)) pa_nil)))))
      (pss_one (ps_ret (pv 2))))), ?_⟩
  try dsimp only [cxK]
  obtain ⟨B, k⟩ := h
  have he := B.e
  walk_at "rd"
  refine ⟨Nat.zero_le _, fun q hq => ?_⟩
  have s1 : Same H (upd H q (.lst [])) := (Same.refl H).n hq
  have nq : ep ≠ q := ne_of_none he hq
  have hl1 := s1 _ _ B.l
  have nl : s.coils.length = 4 := B.y.len.symm.trans B.n
  walk_at "rd"
  refine ⟨lp, rfl, ⟨_, SqL.of hl1⟩, for_list (K := K) (a := lp) (xs := as.map V.ref) (fun i σ H' => ∃ v : Option V, σ = [some (.ref ep), some (.int (t : Nat)), some (.ref q), v] ∧ LoopAt A H H' q as (idleF t) (softG t) s.coils i)
    ⟨none, rfl, ⟨by rw [mapTo_zero]; exact B.y.keep fun a _ o h => s1 a o h, by rw [evTo_zero]; exact upd_same, fun b o h _ => s1 b o h⟩⟩ (fun i σ H' _ ⟨_, _, L⟩ => SqL.of (L.fr _ _ B.l (B.y.out B.l fun _ _ _ => lst_ne))) ?_ ?_⟩
  · rintro i y σ H' hi ⟨v, rfl, L⟩
    obtain ⟨a, ha, rfl⟩ := map_ref hi
    obtain ⟨x, dx, hx, hax⟩ := L.y.get ha
    have li : i < 4 := by
      have := (List.getElem?_eq_some_iff.mp ha).1
      have := B.n
      omega
    have hx0 := List.getElem?_eq_getElem (show i < s.coils.length by omega)
    have e := Option.some.inj (hx.symm.trans (mapTo_here hx0))
    subst e
    have hq' := L.l
    walk_at "rd"
    refine ⟨a, dx, i, _, t, rfl, hax, fun H2 r h2 hr nr f2 => ?_⟩
    obtain ⟨hq2, L2⟩ := L.next hq ha hx0 h2 f2
    walk_at "rd"
    have z1 := evTo_len (softG_len t) (xs := s.coils) (i := i) (by omega)
    have z2 := softG_len t i s.coils[i]
    refine rd_ext hq2 hr (by rw [List.length_map, List.length_map, evI_len, evI_len, line_is]; omega) ?_
    walk_at "rd"
    exact ⟨_, rfl, L2⟩
  · rintro σ H' ⟨v, rfl, L⟩
    rw [List.length_map] at L
    have n4 := B.n
    have y := L.y
    have l := L.l
    rw [mapTo_all (by omega), ← idled_map0] at y
    rw [evTo_all (by omega), ← softly_map0] at l
    walk_at "rd"
    exact k _ q y l hq L.fr
def sp_Engine_timing_at (K : PySem.W.Frag) (A : Adr) : Sp := fun vs H Q _ => ∃ (zz ep : Addr) (s : Ks209.Abs) (v : Nat) (edx pa pf cp lp cdx : Addr) (c : Ck) (as : List Addr), vs = [.ref ep, .int (v : Nat)] ∧ EngAt A zz H ep s edx pa pf cp lp cdx c as ∧ v ≤ 3840 ∧
  ∀ (H' : Hp) (tp dx : Addr), H' tp = some (OT A dx s.h (Ks208.look s.h.advance s.load v).toNat (Ks208.look s.h.fuel s.load v).toNat) → H tp = none → Same H H' → Q (.ref tp) H'
theorem ok_Engine_timing_at (T : Txt K mg A) : FnOk P w K mg base CX0 3 A.f_Engine_timing_at A.d_Engine_timing_at ["self", "speed"] (sp_Engine_timing_at K A) := by
  refine T.m_Engine_timing_at.fn.ok sc_Engine_timing_at (fun vs H Q E h => ?_) (fun cdv A0 outer s H vs Q E hr h => ?_)
  · obtain ⟨zz, ep, s, v, edx, pa, pf, cp, lp, cdx, c, as, rfl, _⟩ := h
    rfl
  obtain ⟨zz, ep, s, v, edx, pa, pf, cp, lp, cdx, c, as, rfl, h⟩ := h
  refine ⟨_, (pss_cons (ps_set (i := 2) sc_Engine_timing_at.nd rfl (Or.inl rfl) (pe_call (ok_look_between T) (hr.mono (by decide)) rfl T.f_look_between T.k_look_between T.b_look_between .nil pass0 (pa_cons (pe_fld (pv 0) rfl) (pa_cons (pe_fld (pv 0) rfl) (pa_cons (pv 1) pa_nil)))))
      (pss_cons (ps_set (i := 3) sc_Engine_timing_at.nd rfl (Or.inl rfl) (pe_call (ok_look_between T) (hr.mono (by decide)) rfl T.f_look_between T.k_look_between T.b_look_between .nil pass0 (pa_cons (pe_fld (pv 0) rfl) (pa_cons (pe_fld (pv 0) rfl) (pa_cons (pv 1) pa_nil)))))
      (pss_one (ps_ret (pe_make T.mk_Timing (ok_Timing___init__ T) (hr.mono (by decide)) rfl T.c_Timing T.m_Timing___init__.bd .nil pass0 (pa_cons (pe_fld (pv 0) rfl) (pa_cons (pe_fld (pv 0) rfl) (pa_cons (pv 2) (pa_cons (pv 3) pa_nil))))))))), ?_⟩
  try dsimp only [cxK]
  obtain ⟨B, hv, k⟩ := h
  have he := B.e
  obtain ⟨_, _, _, ha, hf⟩ := (ok_iff s.h).mp B.ok
  have na := look_nn B.ld hv (fun z m => (ha z m).1)
  have nf := look_nn B.ld hv hf
  walk_at "rd"
  refine ⟨pa, s.h.advance, s.load, v, rfl, SqL.of B.a, B.la, B.ld, hv, ?_⟩
  walk_at "rd"
  refine ⟨pf, s.h.fuel, s.load, v, rfl, SqL.of B.f, B.lf, B.ld, hv, ?_⟩
  walk_at "rd"
  intro x dx hx hdx ne
  refine ⟨x, dx, s.h, (Ks208.look s.h.advance s.load v).toNat, (Ks208.look s.h.fuel s.load v).toNat, by rw [Int.toNat_of_nonneg na, Int.toNat_of_nonneg nf], upd_same, fun H2 h2 f2 => ⟨rfl, ?_⟩⟩
  exact k H2 x dx h2 hx (Same.made hx hdx f2)
def sp_Engine_follow_all (K : PySem.W.Frag) (A : Adr) : Sp := fun vs H Q _ => ∃ (zz ep : Addr) (s : Ks209.Abs) (mp mdx : Addr) (e : Ks209.Here) (edx pa pf cp lp cdx : Addr) (c : Ck) (as : List Addr), vs = [.ref ep, .ref mp] ∧ EngAt A zz H ep s edx pa pf cp lp cdx c as ∧ H mp = some (OM A mdx e) ∧ (1 ≤ e.d ∧ e.d ≤ 1048576 ∧ 64 ≤ e.span ∧ e.span ≤ 128) ∧
  TellsAll A H Q as (Ks209.cylinders s.h e (Ks208.look s.h.advance s.load (Ks209.speed e)).toNat (Ks208.look s.h.fuel s.load (Ks209.speed e)).toNat 0 s.coils).1 (Ks209.cylinders s.h e (Ks208.look s.h.advance s.load (Ks209.speed e)).toNat (Ks208.look s.h.fuel s.load (Ks209.speed e)).toNat 0 s.coils).2
theorem speed_le (e : Ks209.Here) : Ks209.speed e ≤ 3840 := by
  unfold Ks209.speed
  exact Nat.min_le_left _ _
theorem ok_Engine_follow_all (T : Txt K mg A) : FnOk P w K mg base CX0 4 A.f_Engine_follow_all A.d_Engine_follow_all ["self", "moment"] (sp_Engine_follow_all K A) := by
  refine T.m_Engine_follow_all.fn.ok sc_Engine_follow_all (fun vs H Q E h => ?_) (fun cdv A0 outer s H vs Q E hr h => ?_)
  · obtain ⟨zz, ep, s, mp, mdx, e, edx, pa, pf, cp, lp, cdx, c, as, rfl, _⟩ := h
    rfl
  obtain ⟨zz, ep, s, mp, mdx, e, edx, pa, pf, cp, lp, cdx, c, as, rfl, h⟩ := h
  refine ⟨_, (pss_cons (ps_set (i := 2) sc_Engine_follow_all.nd rfl (Or.inl rfl) (pe_meth (pv 0) T.cls_Engine T.m_Engine_timing_at.mt (ok_Engine_timing_at T) (hr.mono (by decide)) T.m_Engine_timing_at.bd .nil pass0 (pa_cons (pe_meth0 (pv 1) T.cls_Moment T.m_Moment_speed.mt (ok_Moment_speed T) (hr.mono (by decide)) T.m_Moment_speed.bd .nil pass0) pa_nil)))
      (pss_cons (ps_set (i := 3) sc_Engine_follow_all.nd rfl (Or.inl rfl) (pe_lst pa_nil))
      (pss_cons (ps_for PassesOwn.never rfl (pi_list (pe_fld (pv 0) rfl)) (pg_name (i := 4) sc_Engine_follow_all.nd rfl (Or.inl rfl))
      (pss_one (ps_expr (pe_bm PySem.F.plainAttrs_list PySem.F.slot_list_extend PySem.F.type_list_extend mt_extend (pv 3) (pa_cons (pe_meth (pv 4) T.cls_Cylinder T.m_Cylinder_follow.mt (ok_Cylinder_follow T) (hr.mono (by decide)) T.m_Cylinder_follow.bd .nil pass0 (pa_cons (pv 1) (pa_cons (pv 2) pa_nil))) pa_nil)))))
      (pss_one (ps_ret (pv 3)))))), ?_⟩
  try dsimp only [cxK]
  obtain ⟨B, hm, hb, k⟩ := h
  have he := B.e
  obtain ⟨_, _, _, ha, hf⟩ := (ok_iff s.h).mp B.ok
  have a1 : (Ks208.look s.h.advance s.load (Ks209.speed e)).toNat ≤ 1024 := by
    have := look_le B.ld (speed_le e) (fun z m => (ha z m).2)
    omega
  rw [cyl_map0] at k
  walk_at "rd"
  refine ⟨mp, mdx, e, rfl, hm, hb.1, hb.2.1, ?_⟩
  walk_at "rd"
  refine ⟨zz, ep, s, Ks209.speed e, edx, pa, pf, cp, lp, cdx, c, as, rfl, B, speed_le e, fun H1 tp tdx ht nt s1 => ?_⟩
  generalize (Ks208.look s.h.advance s.load (Ks209.speed e)).toNat = adv at k a1 ht
  generalize (Ks208.look s.h.fuel s.load (Ks209.speed e)).toNat = fuel at k ht
  have B1 := B.same s1
  have he1 := B1.e
  have hm1 := s1 _ _ hm
  walk_at "rd"
  refine ⟨Nat.zero_le _, fun q hq => ?_⟩
  have s2 : Same H1 (upd H1 q (.lst [])) := (Same.refl H1).n hq
  have nq : ep ≠ q := ne_of_none he1 hq
  have hl2 := s2 _ _ B1.l
  have nl : s.coils.length = 4 := B1.y.len.symm.trans B1.n
  have om : mp ∉ as := B1.y.out hm1 fun _ _ _ => ins_en "now" rfl rfl
  have ot : tp ∉ as := B1.y.out ht fun _ _ _ => ins_en "dwell" rfl rfl
  walk_at "rd"
  refine ⟨lp, rfl, ⟨_, SqL.of hl2⟩, for_list (K := K) (a := lp) (xs := as.map V.ref) (fun i σ H' => ∃ v : Option V, σ = [some (.ref ep), some (.ref mp), some (.ref tp), some (.ref q), v] ∧ LoopAt A H1 H' q as (coilF s.h e adv) (coilG s.h e adv fuel) s.coils i)
    ⟨none, rfl, ⟨by rw [mapTo_zero]; exact B1.y.keep fun a _ o h => s2 a o h, by rw [evTo_zero]; exact upd_same, fun b o h _ => s2 b o h⟩⟩ (fun i σ H' _ ⟨_, _, L⟩ => SqL.of (L.fr _ _ B1.l (B1.y.out B1.l fun _ _ _ => lst_ne))) ?_ ?_⟩
  · rintro i y σ H' hi ⟨v, rfl, L⟩
    obtain ⟨a, ha, rfl⟩ := map_ref hi
    obtain ⟨x, dx, hx, hax⟩ := L.y.get ha
    have li : i < 4 := by
      have := (List.getElem?_eq_some_iff.mp ha).1
      have := B.n
      omega
    have hx0 := List.getElem?_eq_getElem (show i < s.coils.length by omega)
    have e0 := Option.some.inj (hx.symm.trans (mapTo_here hx0))
    subst e0
    have hq' := L.l
    walk_at "rd"
    refine ⟨a, dx, i, _, mp, tp, e, s.h, adv, fuel, rfl, hax, ⟨⟨mdx, L.fr _ _ hm1 om⟩, ⟨tdx, L.fr _ _ ht ot⟩, hb.1, hb.2.1, hb.2.2.1, hb.2.2.2, a1⟩, fun H2 r h2 hr nr f2 => ?_⟩
    obtain ⟨hq2, L2⟩ := L.next hq ha hx0 h2 f2
    walk_at "rd"
    have z1 := evTo_len (coilG_len s.h e adv fuel) (xs := s.coils) (i := i) (by omega)
    have z2 := coilG_len s.h e adv fuel i s.coils[i]
    refine rd_ext hq2 hr (by rw [List.length_map, List.length_map, evI_len, evI_len, line_is]; omega) ?_
    walk_at "rd"
    exact ⟨_, rfl, L2⟩
  · rintro σ H' ⟨v, rfl, L⟩
    rw [List.length_map] at L
    have n4 := B.n
    have y := L.y
    have l := L.l
    rw [mapTo_all (by omega)] at y
    rw [evTo_all (by omega)] at l
    walk_at "rd"
    exact k _ q y l (s1.free hq) fun b o h m => L.fr b o (s1 b o h) m
end
end Et

set_option Elab.async false
set_option linter.all false
set_option maxRecDepth 100000
set_option maxHeartbeats 4000000
namespace Et
open PySem PySem.Spec PyProof.Rows L2
open PySem.W (Codec)
local macro_rules | `(tactic| walk_at "at") => `(tactic| first | assumption | exact upd_same | (refine (upd_ne (by assumption)).trans ?_; walk_at "at"))
local macro_rules | `(tactic| walk_at "rd") => `(tactic| repeat (first
  | with_reducible refine rd_seq ?_
  | with_reducible refine rd_ret ?_
  | with_reducible refine rd_retN ?_
  | with_reducible refine rd_drop ?_
  | with_reducible refine rd_asg ?_
  | with_reducible refine rd_name ?_
  | with_reducible refine rd_next ?_
  | with_reducible refine rd_if ?_
  | with_reducible refine rd_test ?_
  | with_reducible refine rd_tB ?_
  | with_reducible refine rd_and ?_
  | with_reducible refine rd_or ?_
  | with_reducible refine rd_not ?_
  | with_reducible refine rd_andV ?_
  | with_reducible refine rd_orV ?_
  | with_reducible refine rd_notV ?_
  | with_reducible refine rd_ifE ?_
  | with_reducible refine rd_op ?_
  | with_reducible refine rd_chain ?_
  | with_reducible refine rd_C ?_
  | ((with_reducible refine rd_varE ?_); refine ⟨_, rfl, ?_⟩)
  | with_reducible refine rd_rI0 ?_
  | with_reducible refine rd_eqI ?_
  | with_reducible refine rd_neI ?_
  | with_reducible refine rd_get ?_
  | with_reducible refine rd_put ?_
  | with_reducible refine rd_met ?_
  | with_reducible refine rd_cal ?_
  | with_reducible refine rd_mak ?_
  | with_reducible refine rd_cb ?_
  | with_reducible refine rd_nil ?_
  | with_reducible refine rd_cons ?_
  | with_reducible refine rd_lst ?_
  | with_reducible refine rd_tup ?_
  | with_reducible refine rd_sl ?_
  | with_reducible refine rd_part ?_
  | with_reducible refine rd_nopart ?_
  | with_reducible refine rd_bm ?_
  | with_reducible refine rd_bl ?_
  | with_reducible refine rd_blV ?_
  | with_reducible refine rd_intV ?_
  | with_reducible refine iteT ?_
  | with_reducible refine iteF ?_
  | with_reducible refine rd_itNT ?_
  | with_reducible refine rd_itNF ?_
  | with_reducible refine rd_for ?_
  | with_reducible refine rd_lcL ?_
  | with_reducible refine rd_lcR ?_
  | with_reducible refine rd_yes ?_
  | with_reducible refine rd_listT (SqL.of (by walk_at "at")) ?_
  | with_reducible refine rd_isNn ?_
  | with_reducible refine rd_isNi ?_
  | with_reducible refine rd_notNn ?_
  | with_reducible refine rd_notNi ?_
  | with_reducible refine rd_eqNi ?_
  | with_reducible refine rd_max2 ?_
  | with_reducible refine rd_min2 ?_
  | with_reducible refine rd_mulL (by decide) ?_
  | with_reducible refine rd_div (by decide) ?_
  | with_reducible refine rd_mod (by decide) ?_
  | with_reducible refine ⟨_, fld_Crank_last_time (by assumption) (by walk_at "at"), ?_⟩
  | with_reducible refine ⟨_, st_Crank_last_time (by assumption) (by walk_at "at"), ?_⟩
  | with_reducible refine ⟨_, fld_Crank_interval (by assumption) (by walk_at "at"), ?_⟩
  | with_reducible refine ⟨_, st_Crank_interval (by assumption) (by walk_at "at"), ?_⟩
  | with_reducible refine ⟨_, fld_Crank_certainty (by assumption) (by walk_at "at"), ?_⟩
  | with_reducible refine ⟨_, st_Crank_certainty (by assumption) (by walk_at "at"), ?_⟩
  | with_reducible refine ⟨_, fld_Crank_place (by assumption) (by walk_at "at"), ?_⟩
  | with_reducible refine ⟨_, st_Crank_place (by assumption) (by walk_at "at"), ?_⟩
  | with_reducible refine ⟨_, fld_Crank_turn (by assumption) (by walk_at "at"), ?_⟩
  | with_reducible refine ⟨_, st_Crank_turn (by assumption) (by walk_at "at"), ?_⟩
  | with_reducible refine ⟨_, fld_Crank_cam_told (by assumption) (by walk_at "at"), ?_⟩
  | with_reducible refine ⟨_, st_Crank_cam_told (by assumption) (by walk_at "at"), ?_⟩
  | with_reducible refine ⟨rc_Crank (by walk_at "at"), ?_⟩
  | with_reducible refine ⟨_, fld_Cylinder_number (by assumption) (by walk_at "at"), ?_⟩
  | with_reducible refine ⟨_, st_Cylinder_number (by assumption) (by walk_at "at"), ?_⟩
  | with_reducible refine ⟨_, fld_Cylinder_phase (by assumption) (by walk_at "at"), ?_⟩
  | with_reducible refine ⟨_, st_Cylinder_phase (by assumption) (by walk_at "at"), ?_⟩
  | with_reducible refine ⟨_, fld_Cylinder_went_on (by assumption) (by walk_at "at"), ?_⟩
  | with_reducible refine ⟨_, st_Cylinder_went_on (by assumption) (by walk_at "at"), ?_⟩
  | with_reducible refine ⟨_, fld_Cylinder_off (by assumption) (by walk_at "at"), ?_⟩
  | with_reducible refine ⟨_, st_Cylinder_off (by assumption) (by walk_at "at"), ?_⟩
  | with_reducible refine ⟨rc_Cylinder (by walk_at "at"), ?_⟩
  | with_reducible refine ⟨_, fld_Moment_now (by assumption) (by walk_at "at"), ?_⟩
  | with_reducible refine ⟨_, st_Moment_now (by assumption) (by walk_at "at"), ?_⟩
  | with_reducible refine ⟨_, fld_Moment_position (by assumption) (by walk_at "at"), ?_⟩
  | with_reducible refine ⟨_, st_Moment_position (by assumption) (by walk_at "at"), ?_⟩
  | with_reducible refine ⟨_, fld_Moment_pace (by assumption) (by walk_at "at"), ?_⟩
  | with_reducible refine ⟨_, st_Moment_pace (by assumption) (by walk_at "at"), ?_⟩
  | with_reducible refine ⟨_, fld_Moment_span (by assumption) (by walk_at "at"), ?_⟩
  | with_reducible refine ⟨_, st_Moment_span (by assumption) (by walk_at "at"), ?_⟩
  | with_reducible refine ⟨rc_Moment (by walk_at "at"), ?_⟩
  | with_reducible refine ⟨_, fld_Timing_dwell (by assumption) (by walk_at "at"), ?_⟩
  | with_reducible refine ⟨_, st_Timing_dwell (by assumption) (by walk_at "at"), ?_⟩
  | with_reducible refine ⟨_, fld_Timing_most (by assumption) (by walk_at "at"), ?_⟩
  | with_reducible refine ⟨_, st_Timing_most (by assumption) (by walk_at "at"), ?_⟩
  | with_reducible refine ⟨_, fld_Timing_advance (by assumption) (by walk_at "at"), ?_⟩
  | with_reducible refine ⟨_, st_Timing_advance (by assumption) (by walk_at "at"), ?_⟩
  | with_reducible refine ⟨_, fld_Timing_fuel (by assumption) (by walk_at "at"), ?_⟩
  | with_reducible refine ⟨_, st_Timing_fuel (by assumption) (by walk_at "at"), ?_⟩
  | with_reducible refine ⟨rc_Timing (by walk_at "at"), ?_⟩
  | with_reducible refine ⟨_, fld_Engine_dwell (by assumption) (by walk_at "at"), ?_⟩
  | with_reducible refine ⟨_, st_Engine_dwell (by assumption) (by walk_at "at"), ?_⟩
  | with_reducible refine ⟨_, fld_Engine_most (by assumption) (by walk_at "at"), ?_⟩
  | with_reducible refine ⟨_, st_Engine_most (by assumption) (by walk_at "at"), ?_⟩
  | with_reducible refine ⟨_, fld_Engine_advances (by assumption) (by walk_at "at"), ?_⟩
  | with_reducible refine ⟨_, st_Engine_advances (by assumption) (by walk_at "at"), ?_⟩
  | with_reducible refine ⟨_, fld_Engine_fuels (by assumption) (by walk_at "at"), ?_⟩
  | with_reducible refine ⟨_, st_Engine_fuels (by assumption) (by walk_at "at"), ?_⟩
  | with_reducible refine ⟨_, fld_Engine_load_now (by assumption) (by walk_at "at"), ?_⟩
  | with_reducible refine ⟨_, st_Engine_load_now (by assumption) (by walk_at "at"), ?_⟩
  | with_reducible refine ⟨_, fld_Engine_crank (by assumption) (by walk_at "at"), ?_⟩
  | with_reducible refine ⟨_, st_Engine_crank (by assumption) (by walk_at "at"), ?_⟩
  | with_reducible refine ⟨_, fld_Engine_cylinders (by assumption) (by walk_at "at"), ?_⟩
  | with_reducible refine ⟨_, st_Engine_cylinders (by assumption) (by walk_at "at"), ?_⟩
  | with_reducible refine ⟨rc_Engine (by walk_at "at"), ?_⟩
  ))

section
variable {P : Program} {w : World} {K : PySem.W.Frag} {mg : Str → Option Value} {base : Heap} {A : Adr} {zz : Addr}

/-! ### the engine's calls -/
def Ans (A : Adr) (zz : Addr) (H : Hp) (Q : VK) (ep : Addr) (s' : Ks209.Abs) (l : List Int) : Prop := ∀ (H' : Hp) (q : Addr), Eng A zz H' ep s' → H' q = some (.lst (l.map V.int)) → H q = none → Kp H H' → Q (.ref q) H'
theorem EngAt.eng {H : Hp} {ep edx pa pf cp lp cdx : Addr} {s : Ks209.Abs} {c : Ck} {as : List Addr} (B : EngAt A zz H ep s edx pa pf cp lp cdx c as) : Eng A zz H ep s := ⟨_, _, _, _, _, _, _, _, B⟩
theorem Eng.same {H H' : Hp} {ep : Addr} {s : Ks209.Abs} (E : Eng A zz H ep s) (f : Same H H') : Eng A zz H' ep s := by
  obtain ⟨_, _, _, _, _, _, _, _, B⟩ := E
  exact (B.same f).eng
theorem Ans.one {H : Hp} {Q : VK} {ep : Addr} {s : Ks209.Abs} {v : Int} (k : Ans A zz H Q ep s [v]) (E : Eng A zz H ep s) : ([V.int v] : List V).length ≤ sizeLine ∧ ∀ q, H q = none → Q (.ref q) (upd H q (.lst [.int v])) :=
  ⟨Nat.le_of_ble_eq_true rfl, fun q hq => k _ q (E.same ((Same.refl H).n hq)) upd_same hq ((Same.refl H).n hq).kp⟩
def sp_Engine_cam (K : PySem.W.Frag) (A : Adr) : Sp := fun vs H Q _ => ∃ (zz ep : Addr) (s : Ks209.Abs), vs = [.ref ep] ∧ Eng A zz H ep s ∧ Ans A zz H Q ep (nextOf s .cam) (ansOf s .cam)
theorem ok_Engine_cam (T : Txt K mg A) : FnOk P w K mg base CX0 2 A.f_Engine_cam A.d_Engine_cam ["self"] (sp_Engine_cam K A) := by
  refine T.m_Engine_cam.fn.ok sc_Engine_cam (fun vs H Q E h => ?_) (fun cdv A0 outer s H vs Q E hr h => ?_)
  · obtain ⟨zz, ep, s, rfl, _⟩ := h
    rfl
  obtain ⟨zz, ep, s, rfl, h⟩ := h
  refine ⟨_, (pss_cons (ps_expr (pe_meth0 (pe_fld (pv 0) rfl) T.cls_Crank T.m_Crank_tell_cam.mt (ok_Crank_tell_cam T) (hr.mono (by decide)) T.m_Crank_tell_cam.bd .nil pass0))
      (pss_one (ps_ret (pe_lst (pa_cons pe_int pa_nil))))), ?_⟩
  try dsimp only [cxK]
  obtain ⟨⟨edx, pa, pf, cp, lp, cdx, c, as, B⟩, k⟩ := h
  have he := B.e
  have hc := B.k
  walk_at "rd"
  refine ⟨cp, cdx, c, rfl, B.k, fun H1 h1 f1 => ?_⟩
  walk_at "rd"
  have B1 := B.crank h1 f1 (rel_cam B.r)
  have k1 : Ans A zz H1 Q ep (nextOf s .cam) [0] := fun H' q E l n f => k H' q E l (f1.free h1 n) ((f1.kp B.k h1).trans f)
  exact k1.one B1.eng
def sp_Engine_load (K : PySem.W.Frag) (A : Adr) : Sp := fun vs H Q _ => ∃ (zz ep : Addr) (s : Ks209.Abs) (x : Nat), vs = [.ref ep, .int (x : Nat)] ∧ Eng A zz H ep s ∧ Ans A zz H Q ep (nextOf s (.load x)) (ansOf s (.load x))
theorem ok_Engine_load (T : Txt K mg A) : FnOk P w K mg base CX0 1 A.f_Engine_load A.d_Engine_load ["self", "load"] (sp_Engine_load K A) := by
  refine T.m_Engine_load.fn.ok sc_Engine_load (fun vs H Q E h => ?_) (fun cdv A0 outer s H vs Q E hr h => ?_)
  · obtain ⟨zz, ep, s, x, rfl, _⟩ := h
    rfl
  obtain ⟨zz, ep, s, x, rfl, h⟩ := h
  refine ⟨_, (pss_cons (ps_if (pt_cmpR op_gt (pv 1) (pgi T.g_MOST_LOAD) (nomark _)) (pss_one (ps_ret (pe_lst (pa_cons (pgi T.g_REFUSED) pa_nil)))) pss_nil)
      (pss_cons (ps_fld (pv 0) (pv 1) rfl)
      (pss_one (ps_ret (pe_lst (pa_cons pe_int pa_nil)))))), ?_⟩
  try dsimp only [cxK]
  obtain ⟨⟨edx, pa, pf, cp, lp, cdx, c, as, B⟩, k⟩ := h
  have he := B.e
  have hc := B.k
  walk_at "rd"
  refine rd_ite (fun e => ?_) (fun e => ?_)
  · have e : 3840 < x := by
      have := of_decide_eq_true e
      omega
    rw [(load_no e).1, (load_no e).2] at k
    walk_at "rd"
    exact k.one B.eng
  · have e : ¬ 3840 < x := by
      have := of_decide_eq_false e
      omega
    rw [(load_yes e).1, (load_yes e).2] at k
    walk_at "rd"
    have f : Fr1 ep H (upd H ep (OE A edx s.h.dwell s.h.most pa pf x cp lp)) := Fr1.refl.u
    have B1 : EngAt A zz (upd H ep (OE A edx s.h.dwell s.h.most pa pf x cp lp)) ep { s with load := x } edx pa pf cp lp cdx c as :=
      ⟨upd_same, f _ _ B.a (ne_of B.a B.e lst_ne), f _ _ B.f (ne_of B.f B.e lst_ne), f _ _ B.k B.ec.symm, B.r, f _ _ B.l (ne_of B.l B.e lst_ne), B.y.keep fun a m o q => f a o q (fun z => B.eo (z ▸ m)), B.n, by show x ≤ 3840; omega, B.ok, B.la, B.lf, B.zn⟩
    have k1 : Ans A zz (upd H ep (OE A edx s.h.dwell s.h.most pa pf x cp lp)) Q ep { s with load := x } [0] := fun H' q E l n g => k H' q E l (f.free upd_same n) ((f.kp B.e upd_same).trans g)
    exact k1.one B1.eng
def sp_Engine_tooth (K : PySem.W.Frag) (A : Adr) : Sp := fun vs H Q _ => ∃ (zz ep : Addr) (s : Ks209.Abs) (t : Nat), vs = [.ref ep, .int (t : Nat)] ∧ Eng A zz H ep s ∧ Ans A zz H Q ep (nextOf s (.tooth t)) (ansOf s (.tooth t))
theorem behind_lt {c : Ck} {a : Ks207.Abs} {t : Nat} (h : RelCk c a) (b : c.behind t = true) : ∀ p, a.t = some p → p < t := by
  intro p e
  unfold Ck.behind at b
  rw [h.lt, e] at b
  exact of_decide_eq_true b
theorem ev_bound {l : List Ks209.Ev} (h : l.length ≤ 20) {v : Int} : ([V.int v] : List V).length + ((evI l).map V.int).length ≤ sizeLine := by
  rw [List.length_map, evI_len, line_is]
  show 1 + _ ≤ _
  omega
theorem soft_len (xs : List Ks209.Coil) (t : Nat) (h : xs.length = 4) : (Ks209.softly xs t).length ≤ 20 := by
  rw [softly_map0, ← evTo_all (i := xs.length) (Nat.le_refl _)]
  have := evTo_len (softG_len t) (xs := xs) (i := xs.length) (Nat.le_refl _)
  omega
theorem cyls_len (hw : Ks209.How) (e : Ks209.Here) (adv fuel : Nat) (xs : List Ks209.Coil) (h : xs.length = 4) : (Ks209.cylinders hw e adv fuel 0 xs).2.length ≤ 20 := by
  rw [cyl_map0, ← evTo_all (i := xs.length) (Nat.le_refl _)]
  have := evTo_len (coilG_len hw e adv fuel) (xs := xs) (i := xs.length) (Nat.le_refl _)
  show (evTo (coilG hw e adv fuel) xs.length xs).length ≤ 20
  omega
theorem here_ok {c : Ck} {e : Ks209.Here} (h : HereC c e) : 1 ≤ e.d ∧ e.d ≤ 1048576 ∧ 64 ≤ e.span ∧ e.span ≤ 128 := by
  obtain ⟨t, r, n, h1, h2, h3, h4, h5, h6, h7, h8⟩ := h.ex
  subst h8
  refine ⟨Nat.le_max_left _ _, ?_, ?_, ?_⟩
  · show max 1 (if c.pl = 0 then n / 2 else n) ≤ 1048576
    split <;> omega
  · show 64 ≤ if c.pl = 34 then 128 else 64
    split <;> omega
  · show (if c.pl = 34 then 128 else 64) ≤ 128
    split <;> omega
theorem ok_Engine_tooth (T : Txt K mg A) : FnOk P w K mg base CX0 5 A.f_Engine_tooth A.d_Engine_tooth ["self", "t"] (sp_Engine_tooth K A) := by
  refine T.m_Engine_tooth.fn.ok sc_Engine_tooth (fun vs H Q E h => ?_) (fun cdv A0 outer s H vs Q E hr h => ?_)
  · obtain ⟨zz, ep, s, t, rfl, _⟩ := h
    rfl
  obtain ⟨zz, ep, s, t, rfl, h⟩ := h
  refine ⟨_, (pss_cons (ps_if (pt_not (pt_val (pe_meth (pv 0) T.cls_Engine T.m_Engine_may_come.mt (ok_Engine_may_come T) (hr.mono (by decide)) T.m_Engine_may_come.bd .nil pass0 (pa_cons (pv 1) pa_nil)))) (pss_one (ps_ret (pe_lst (pa_cons (pgi T.g_REFUSED) pa_nil)))) pss_nil)
      (pss_cons (ps_expr (pe_meth (pe_fld (pv 0) rfl) T.cls_Crank T.m_Crank_pass_tooth.mt (ok_Crank_pass_tooth T) (hr.mono (by decide)) T.m_Crank_pass_tooth.bd .nil pass0 (pa_cons (pv 1) pa_nil)))
      (pss_cons (ps_if (pt_not (pt_val (pe_meth0 (pe_fld (pv 0) rfl) T.cls_Crank T.m_Crank_is_known.mt (ok_Crank_is_known T) (hr.mono (by decide)) T.m_Crank_is_known.bd .nil pass0))) (pss_one (ps_ret (pe_op op_cat (pe_lst (pa_cons pe_int pa_nil)) (pe_meth (pv 0) T.cls_Engine T.m_Engine_give_up_all.mt (ok_Engine_give_up_all T) (hr.mono (by decide)) T.m_Engine_give_up_all.bd .nil pass0 (pa_cons (pv 1) pa_nil))))) pss_nil)
      (pss_one (ps_ret (pe_op op_cat (pe_lst (pa_cons pe_int pa_nil)) (pe_meth (pv 0) T.cls_Engine T.m_Engine_follow_all.mt (ok_Engine_follow_all T) (hr.mono (by decide)) T.m_Engine_follow_all.bd .nil pass0 (pa_cons (pe_make T.mk_Moment (ok_Moment___init__ T) (hr.mono (by decide)) rfl T.c_Moment T.m_Moment___init__.bd .nil pass0 (pa_cons (pe_fld (pv 0) rfl) pa_nil)) pa_nil)))))))), ?_⟩
  try dsimp only [cxK]
  obtain ⟨⟨edx, pa, pf, cp, lp, cdx, c, as, B⟩, k⟩ := h
  have he := B.e
  have hc := B.k
  walk_at "rd"
  refine ⟨zz, ep, s, t, edx, pa, pf, cp, lp, cdx, c, as, rfl, B, ?_⟩
  walk_at "rd"
  refine rd_ite (fun w => ?_) (fun w => ?_)
  · have w := (wrong_eq B.r).trans w
    rw [(tooth_wrong w).1, (tooth_wrong w).2] at k
    walk_at "rd"
    exact k.one B.eng
  · have w' := (wrong_eq B.r).trans w
    have b : c.behind t = true := by
      cases q : c.behind t with
      | true => rfl
      | false =>
        rw [q, Bool.and_false] at w
        cases w
    have hb := behind_lt B.r b
    walk_at "rd"
    refine ⟨cp, cdx, c, t, rfl, B.k, fun l hl => Nat.le_of_lt (hb l (by rw [← B.r.lt]; exact hl)), fun H1 h1 f1 => ?_⟩
    have B1 := B.crank h1 f1 (rel_tooth B.r hb)
    have he1 := B1.e
    have k1 := f1.kp B.k h1
    have nl : s.coils.length = 4 := B.y.len.symm.trans B.n
    walk_at "rd"
    refine ⟨cp, cdx, _, rfl, h1, ?_⟩
    walk_at "rd"
    refine rd_ite (fun z => ?_) (fun z => ?_)
    · have z : (c.pass t).known = false := by
        cases q : (c.pass t).known with
        | true =>
          rw [q] at z
          cases z
        | false => rfl
      have g := here_none B1.r z
      rw [(tooth_none w' g).1, (tooth_none w' g).2] at k
      walk_at "rd"
      refine ⟨Nat.le_of_ble_eq_true rfl, fun q0 hq0 => ?_⟩
      have s2 : Same H1 (upd H1 q0 (.lst [.int 0])) := (Same.refl H1).n hq0
      have B2 := B1.same s2
      have he2 := B2.e
      walk_at "rd"
      refine ⟨zz, ep, _, t, edx, pa, pf, cp, lp, cdx, _, as, rfl, B2, fun H3 q3 y3 l3 n3 f3 => ?_⟩
      have l0 : H3 q0 = some (.lst [.int 0]) := f3 _ _ upd_same (B2.y.out upd_same fun _ _ _ => lst_ne)
      walk_at "rd"
      refine rd_cat l0 l3 (ev_bound (soft_len _ _ nl)) fun q4 hq4 => ?_
      have s4 : Same H3 (upd H3 q4 (.lst ([V.int 0] ++ (evI (Ks209.softly s.coils t)).map V.int))) := (Same.refl H3).n hq4
      have k3 := (k1.trans s2.kp).trans (B2.y.kp y3 f3)
      exact k _ q4 ((B2.cyls y3 f3).same s4).eng upd_same (k3.free hq4) (k3.trans s4.kp)
    · have z : (c.pass t).known = true := by
        cases q : (c.pass t).known with
        | true => rfl
        | false =>
          rw [q] at z
          cases z
      obtain ⟨e, g, he⟩ := here_some B1.r z
      rw [(tooth_some w' g).1, (tooth_some w' g).2] at k
      walk_at "rd"
      refine ⟨Nat.le_of_ble_eq_true rfl, fun q0 hq0 => ?_⟩
      have s2 : Same H1 (upd H1 q0 (.lst [.int 1])) := (Same.refl H1).n hq0
      have B2 := B1.same s2
      have he2 := B2.e
      walk_at "rd"
      intro x dx hx hdx ne
      have ncx := ne_of_none B2.k hx
      have ncd := ne_of_none B2.k hdx
      refine ⟨x, dx, cp, cdx, _, e, rfl, upd_same, (upd_ne ncx).trans ((upd_ne ncd).trans B2.k), he, fun H3 h3 f3 => ⟨rfl, ?_⟩⟩
      have s3 : Same _ H3 := Same.made hx hdx f3
      have B3 := B2.same s3
      refine ⟨zz, ep, _, x, dx, e, edx, pa, pf, cp, lp, cdx, _, as, rfl, B3, h3, here_ok he, fun H4 q4 y4 l4 n4 f4 => ?_⟩
      have l0 : H4 q0 = some (.lst [.int 1]) := f4 _ _ (s3 _ _ upd_same) (B3.y.out (s3 _ _ upd_same) fun _ _ _ => lst_ne)
      walk_at "rd"
      refine rd_cat l0 l4 (ev_bound (cyls_len _ _ _ _ _ nl)) fun q5 hq5 => ?_
      have s5 : Same H4 (upd H4 q5 (.lst ([V.int 1] ++ (evI (Ks209.cylinders s.h e (Ks208.look s.h.advance s.load (Ks209.speed e)).toNat (Ks208.look s.h.fuel s.load (Ks209.speed e)).toNat 0 s.coils).2).map V.int))) := (Same.refl H4).n hq5
      have k3 := ((k1.trans s2.kp).trans s3.kp).trans (B3.y.kp y4 f4)
      exact k _ q5 ((B3.cyls y4 f4).same s5).eng upd_same (k3.free hq5) (k3.trans s5.kp)
end
end Et

set_option Elab.async false
set_option linter.all false
set_option maxRecDepth 100000
set_option maxHeartbeats 4000000
namespace Et
open PySem PySem.Spec PyProof.Rows L2
open PySem.W (Codec)
local macro_rules | `(tactic| walk_at "at") => `(tactic| first | assumption | exact upd_same | (refine (upd_ne (by assumption)).trans ?_; walk_at "at"))
local macro_rules | `(tactic| walk_at "rd") => `(tactic| repeat (first
  | with_reducible refine rd_seq ?_
  | with_reducible refine rd_ret ?_
  | with_reducible refine rd_retN ?_
  | with_reducible refine rd_drop ?_
  | with_reducible refine rd_asg ?_
  | with_reducible refine rd_name ?_
  | with_reducible refine rd_next ?_
  | with_reducible refine rd_if ?_
  | with_reducible refine rd_test ?_
  | with_reducible refine rd_tB ?_
  | with_reducible refine rd_and ?_
  | with_reducible refine rd_or ?_
  | with_reducible refine rd_not ?_
  | with_reducible refine rd_andV ?_
  | with_reducible refine rd_orV ?_
  | with_reducible refine rd_notV ?_
  | with_reducible refine rd_ifE ?_
  | with_reducible refine rd_op ?_
  | with_reducible refine rd_chain ?_
  | with_reducible refine rd_C ?_
  | ((with_reducible refine rd_varE ?_); refine ⟨_, rfl, ?_⟩)
  | with_reducible refine rd_rI0 ?_
  | with_reducible refine rd_eqI ?_
  | with_reducible refine rd_neI ?_
  | with_reducible refine rd_get ?_
  | with_reducible refine rd_put ?_
  | with_reducible refine rd_met ?_
  | with_reducible refine rd_cal ?_
  | with_reducible refine rd_mak ?_
  | with_reducible refine rd_cb ?_
  | with_reducible refine rd_nil ?_
  | with_reducible refine rd_cons ?_
  | with_reducible refine rd_lst ?_
  | with_reducible refine rd_tup ?_
  | with_reducible refine rd_sl ?_
  | with_reducible refine rd_part ?_
  | with_reducible refine rd_nopart ?_
  | with_reducible refine rd_bm ?_
  | with_reducible refine rd_bl ?_
  | with_reducible refine rd_blV ?_
  | with_reducible refine rd_intV ?_
  | with_reducible refine iteT ?_
  | with_reducible refine iteF ?_
  | with_reducible refine rd_itNT ?_
  | with_reducible refine rd_itNF ?_
  | with_reducible refine rd_for ?_
  | with_reducible refine rd_lcL ?_
  | with_reducible refine rd_lcR ?_
  | with_reducible refine rd_yes ?_
  | with_reducible refine rd_listT (SqL.of (by walk_at "at")) ?_
  | with_reducible refine rd_isNn ?_
  | with_reducible refine rd_isNi ?_
  | with_reducible refine rd_notNn ?_
  | with_reducible refine rd_notNi ?_
  | with_reducible refine rd_eqNi ?_
  | with_reducible refine rd_max2 ?_
  | with_reducible refine rd_min2 ?_
  | with_reducible refine rd_mulL (by decide) ?_
  | with_reducible refine rd_div (by decide) ?_
  | with_reducible refine rd_mod (by decide) ?_
  | with_reducible refine ⟨_, fld_Crank_last_time (by assumption) (by walk_at "at"), ?_⟩
  | with_reducible refine ⟨_, st_Crank_last_time (by assumption) (by walk_at "at"), ?_⟩
  | with_reducible refine ⟨_, fld_Crank_interval (by assumption) (by walk_at "at"), ?_⟩
  | with_reducible refine ⟨_, st_Crank_interval (by assumption) (by walk_at "at"), ?_⟩
  | with_reducible refine ⟨_, fld_Crank_certainty (by assumption) (by walk_at "at"), ?_⟩
  | with_reducible refine ⟨_, st_Crank_certainty (by assumption) (by walk_at "at"), ?_⟩
  | with_reducible refine ⟨_, fld_Crank_place (by assumption) (by walk_at "at"), ?_⟩
  | with_reducible refine ⟨_, st_Crank_place (by assumption) (by walk_at "at"), ?_⟩
  | with_reducible refine ⟨_, fld_Crank_turn (by assumption) (by walk_at "at"), ?_⟩
  | with_reducible refine ⟨_, st_Crank_turn (by assumption) (by walk_at "at"), ?_⟩
  | with_reducible refine ⟨_, fld_Crank_cam_told (by assumption) (by walk_at "at"), ?_⟩
  | with_reducible refine ⟨_, st_Crank_cam_told (by assumption) (by walk_at "at"), ?_⟩
  | with_reducible refine ⟨rc_Crank (by walk_at "at"), ?_⟩
  | with_reducible refine ⟨_, fld_Cylinder_number (by assumption) (by walk_at "at"), ?_⟩
  | with_reducible refine ⟨_, st_Cylinder_number (by assumption) (by walk_at "at"), ?_⟩
  | with_reducible refine ⟨_, fld_Cylinder_phase (by assumption) (by walk_at "at"), ?_⟩
  | with_reducible refine ⟨_, st_Cylinder_phase (by assumption) (by walk_at "at"), ?_⟩
  | with_reducible refine ⟨_, fld_Cylinder_went_on (by assumption) (by walk_at "at"), ?_⟩
  | with_reducible refine ⟨_, st_Cylinder_went_on (by assumption) (by walk_at "at"), ?_⟩
  | with_reducible refine ⟨_, fld_Cylinder_off (by assumption) (by walk_at "at"), ?_⟩
  | with_reducible refine ⟨_, st_Cylinder_off (by assumption) (by walk_at "at"), ?_⟩
  | with_reducible refine ⟨rc_Cylinder (by walk_at "at"), ?_⟩
  | with_reducible refine ⟨_, fld_Moment_now (by assumption) (by walk_at "at"), ?_⟩
  | with_reducible refine ⟨_, st_Moment_now (by assumption) (by walk_at "at"), ?_⟩
  | with_reducible refine ⟨_, fld_Moment_position (by assumption) (by walk_at "at"), ?_⟩
  | with_reducible refine ⟨_, st_Moment_position (by assumption) (by walk_at "at"), ?_⟩
  | with_reducible refine ⟨_, fld_Moment_pace (by assumption) (by walk_at "at"), ?_⟩
  | with_reducible refine ⟨_, st_Moment_pace (by assumption) (by walk_at "at"), ?_⟩
  | with_reducible refine ⟨_, fld_Moment_span (by assumption) (by walk_at "at"), ?_⟩
  | with_reducible refine ⟨_, st_Moment_span (by assumption) (by walk_at "at"), ?_⟩
  | with_reducible refine ⟨rc_Moment (by walk_at "at"), ?_⟩
  | with_reducible refine ⟨_, fld_Timing_dwell (by assumption) (by walk_at "at"), ?_⟩
  | with_reducible refine ⟨_, st_Timing_dwell (by assumption) (by walk_at "at"), ?_⟩
  | with_reducible refine ⟨_, fld_Timing_most (by assumption) (by walk_at "at"), ?_⟩
  | with_reducible refine ⟨_, st_Timing_most (by assumption) (by walk_at "at"), ?_⟩
  | with_reducible refine ⟨_, fld_Timing_advance (by assumption) (by walk_at "at"), ?_⟩
  | with_reducible refine ⟨_, st_Timing_advance (by assumption) (by walk_at "at"), ?_⟩
  | with_reducible refine ⟨_, fld_Timing_fuel (by assumption) (by walk_at "at"), ?_⟩
  | with_reducible refine ⟨_, st_Timing_fuel (by assumption) (by walk_at "at"), ?_⟩
  | with_reducible refine ⟨rc_Timing (by walk_at "at"), ?_⟩
  | with_reducible refine ⟨_, fld_Engine_dwell (by assumption) (by walk_at "at"), ?_⟩
  | with_reducible refine ⟨_, st_Engine_dwell (by assumption) (by walk_at "at"), ?_⟩
  | with_reducible refine ⟨_, fld_Engine_most (by assumption) (by walk_at "at"), ?_⟩
  | with_reducible refine ⟨_, st_Engine_most (by assumption) (by walk_at "at"), ?_⟩
  | with_reducible refine ⟨_, fld_Engine_advances (by assumption) (by walk_at "at"), ?_⟩
  | with_reducible refine ⟨_, st_Engine_advances (by assumption) (by walk_at "at"), ?_⟩
  | with_reducible refine ⟨_, fld_Engine_fuels (by assumption) (by walk_at "at"), ?_⟩
  | with_reducible refine ⟨_, st_Engine_fuels (by assumption) (by walk_at "at"), ?_⟩
  | with_reducible refine ⟨_, fld_Engine_load_now (by assumption) (by walk_at "at"), ?_⟩
  | with_reducible refine ⟨_, st_Engine_load_now (by assumption) (by walk_at "at"), ?_⟩
  | with_reducible refine ⟨_, fld_Engine_crank (by assumption) (by walk_at "at"), ?_⟩
  | with_reducible refine ⟨_, st_Engine_crank (by assumption) (by walk_at "at"), ?_⟩
  | with_reducible refine ⟨_, fld_Engine_cylinders (by assumption) (by walk_at "at"), ?_⟩
  | with_reducible refine ⟨_, st_Engine_cylinders (by assumption) (by walk_at "at"), ?_⟩
  | with_reducible refine ⟨rc_Engine (by walk_at "at"), ?_⟩
  ))

section
variable {P : Program} {w : World} {K : PySem.W.Frag} {mg : Str → Option Value} {base : Heap} {A : Adr} {zz : Addr}

/-! ### tick, state -/
theorem pe_fldB {X : Cx} {s : Shared} {H : Hp} {scope : Scope} {cenv : Env} {fp : List Addr} {e : Expr} {f : Str} {pos : Pos} {ta : TE} (he : PE (X.blk s H scope cenv fp) e ta) (hb : attributeBase e f (X.blk s H scope cenv fp).env (eval e (X.blk s H scope cenv fp).env) = eval e (X.blk s H scope cenv fp).env) :
    PE (X.blk s H scope cenv fp) (.Attribute e f pos) (tFld X.K ta f) := pe_fld he hb
theorem EngAt.newc {H : Hp} {ep edx pa pf cp lp cdx x dx : Addr} {s : Ks209.Abs} {c c' : Ck} {k' : Ks207.Abs} {as : List Addr} (B : EngAt A zz H ep s edx pa pf cp lp cdx c as) (h : H x = some (OC A dx c')) (r : RelCk c' k') :
    EngAt A zz (upd H ep (OE A edx s.h.dwell s.h.most pa pf s.load x lp)) ep { s with ck := k' } edx pa pf x lp dx c' as := by
  have f : Fr1 ep H (upd H ep (OE A edx s.h.dwell s.h.most pa pf s.load x lp)) := Fr1.refl.u
  exact ⟨upd_same, f _ _ B.a (ne_of B.a B.e lst_ne), f _ _ B.f (ne_of B.f B.e lst_ne), f _ _ h (ne_of h B.e (ins_en "last_time" rfl rfl)), r, f _ _ B.l (ne_of B.l B.e lst_ne), B.y.keep fun a m o q => f a o q (fun z => B.eo (z ▸ m)), B.n, B.ld, B.ok, B.la, B.lf, B.zn⟩
def sp_Engine_tick (K : PySem.W.Frag) (A : Adr) : Sp := fun vs H Q _ => ∃ (zz ep : Addr) (s : Ks209.Abs) (t : Nat), vs = [.ref ep, .int (t : Nat)] ∧ Eng A zz H ep s ∧ Ans A zz H Q ep (nextOf s (.tick t)) (ansOf s (.tick t))
theorem ok_Engine_tick (T : Txt K mg A) : FnOk P w K mg base CX0 3 A.f_Engine_tick A.d_Engine_tick ["self", "t"] (sp_Engine_tick K A) := by
  refine T.m_Engine_tick.fn.ok sc_Engine_tick (fun vs H Q E h => ?_) (fun cdv A0 outer s H vs Q E hr h => ?_)
  · obtain ⟨zz, ep, s, t, rfl, _⟩ := h
    rfl
  obtain ⟨zz, ep, s, t, rfl, h⟩ := h
  refine ⟨_, (pss_cons (ps_if (pt_not (pt_val (pe_meth (pv 0) T.cls_Engine T.m_Engine_may_come.mt (ok_Engine_may_come T) (hr.mono (by decide)) T.m_Engine_may_come.bd .nil pass0 (pa_cons (pv 1) pa_nil)))) (pss_one (ps_ret (pe_lst (pa_cons (pgi T.g_REFUSED) pa_nil)))) pss_nil)
      (pss_cons (ps_if (pt_not (pt_val (pe_meth (pe_fld (pv 0) rfl) T.cls_Crank T.m_Crank_stands_still.mt (ok_Crank_stands_still T) (hr.mono (by decide)) T.m_Crank_stands_still.bd .nil pass0 (pa_cons (pv 1) pa_nil)))) (pss_one (ps_ret (pe_lst (pa_cons pe_int pa_nil)))) pss_nil)
      (pss_cons (ps_fld (pv 0) (pe_make0 T.mk_Crank (ok_Crank___init__ T) (hr.mono (by decide)) rfl T.c_Crank T.m_Crank___init__.bd .nil pass0) rfl)
      (pss_one (ps_ret (pe_op op_cat (pe_lst (pa_cons pe_int pa_nil)) (pe_meth (pv 0) T.cls_Engine T.m_Engine_give_up_all.mt (ok_Engine_give_up_all T) (hr.mono (by decide)) T.m_Engine_give_up_all.bd .nil pass0 (pa_cons (pv 1) pa_nil)))))))), ?_⟩
  try dsimp only [cxK]
  obtain ⟨⟨edx, pa, pf, cp, lp, cdx, c, as, B⟩, k⟩ := h
  have he := B.e
  have hc := B.k
  walk_at "rd"
  refine ⟨zz, ep, s, t, edx, pa, pf, cp, lp, cdx, c, as, rfl, B, ?_⟩
  walk_at "rd"
  refine rd_ite (fun w => ?_) (fun w => ?_)
  · have w := (wrong_eq B.r).trans w
    rw [(tick_wrong w).1, (tick_wrong w).2] at k
    walk_at "rd"
    exact k.one B.eng
  · have w := (wrong_eq B.r).trans w
    walk_at "rd"
    refine ⟨cp, cdx, c, t, rfl, B.k, ?_⟩
    walk_at "rd"
    refine rd_ite (fun z => ?_) (fun z => ?_)
    · have z : c.still t = false := by
        cases q : c.still t with
        | true =>
          rw [q] at z
          cases z
        | false => rfl
      have z := (still_eq B.r).trans z
      rw [(tick_no w z).1, (tick_no w z).2] at k
      walk_at "rd"
      exact k.one B.eng
    · have z : c.still t = true := by
        cases q : c.still t with
        | true => rfl
        | false =>
          rw [q] at z
          cases z
      have z := (still_eq B.r).trans z
      rw [(tick_yes w z).1, (tick_yes w z).2] at k
      walk_at "rd"
      intro x dx hx hdx ne
      refine ⟨x, dx, rfl, upd_same, fun H1 h1 f1 => ⟨rfl, ?_⟩⟩
      have s1 : Same H H1 := Same.made hx hdx f1
      have B1 := B.same s1
      have he1 := B1.e
      walk_at "rd"
      have B2 := B1.newc h1 rel_new
      have he2 := B2.e
      have k2 : Kp H1 (upd H1 ep (OE A edx s.h.dwell s.h.most pa pf s.load x lp)) := Kp.refl.u B1.e
      have nl : s.coils.length = 4 := B.y.len.symm.trans B.n
      refine ⟨Nat.le_of_ble_eq_true rfl, fun q0 hq0 => ?_⟩
      have s2 : Same (upd H1 ep (OE A edx s.h.dwell s.h.most pa pf s.load x lp)) (upd (upd H1 ep (OE A edx s.h.dwell s.h.most pa pf s.load x lp)) q0 (.lst [.int 1])) := (Same.refl _).n hq0
      have B3 := B2.same s2
      have he3 := B3.e
      walk_at "rd"
      refine ⟨zz, ep, _, t, edx, pa, pf, x, lp, dx, _, as, rfl, B3, fun H3 q3 y3 l3 n3 f3 => ?_⟩
      have l0 : H3 q0 = some (.lst [.int 1]) := f3 _ _ upd_same (B3.y.out upd_same fun _ _ _ => lst_ne)
      walk_at "rd"
      refine rd_cat l0 l3 (ev_bound (soft_len _ _ nl)) fun q4 hq4 => ?_
      have s4 : Same H3 (upd H3 q4 (.lst ([V.int 1] ++ (evI (Ks209.softly s.coils t)).map V.int))) := (Same.refl H3).n hq4
      have k3 := ((s1.kp.trans k2).trans s2.kp).trans (B3.y.kp y3 f3)
      exact k _ q4 ((B3.cyls y3 f3).same s4).eng upd_same (k3.free hq4) (k3.trans s4.kp)
def sp_Engine_state (K : PySem.W.Frag) (A : Adr) : Sp := fun vs H Q _ => ∃ (zz ep : Addr) (s : Ks209.Abs), vs = [.ref ep] ∧ Eng A zz H ep s ∧ Ans A zz H Q ep (nextOf s .state) (ansOf s .state)
theorem ok_Engine_state (T : Txt K mg A) : FnOk P w K mg base CX0 3 A.f_Engine_state A.d_Engine_state ["self"] (sp_Engine_state K A) := by
  refine T.m_Engine_state.fn.ok sc_Engine_state (fun vs H Q E h => ?_) (fun cdv A0 outer s H vs Q E hr h => ?_)
  · obtain ⟨zz, ep, s, rfl, _⟩ := h
    rfl
  obtain ⟨zz, ep, s, rfl, h⟩ := h
  refine ⟨_, (pss_cons (ps_setLc (own := [("cylinder", 2)]) (i := 1) rfl sc_Engine_state.nd rfl rfl (sw_true rfl rfl rfl rfl) (pi_list (pe_fld (pv 0) rfl)) (blkOk_by (show blkC ["self", "phases", "cylinder", "place", "turn"] (defScope s_Engine_state) _ [("cylinder", 2)] = true by decide +kernel)) (fun _ _ _ _ _ => pg_name (i := 2) sc_Engine_state.nd rfl (Or.inl rfl)) (fun _ _ _ _ _ => pts_nil) (fun _ _ _ _ _ => (pe_fldB (pv 2) rfl)))
      (pss_cons (ps_set (i := 3) sc_Engine_state.nd rfl (Or.inl rfl) (pe_ifExp (pt_val (pe_meth0 (pe_fld (pv 0) rfl) T.cls_Crank T.m_Crank_is_sure.mt (ok_Crank_is_sure T) (hr.mono (by decide)) T.m_Crank_is_sure.bd .nil pass0)) (pe_fld (pe_fld (pv 0) rfl) rfl) (pgi T.g_TOOTH_NOT_KNOWN)))
      (pss_cons (ps_set (i := 4) sc_Engine_state.nd rfl (Or.inl rfl) (pe_ifExp (pt_val (pe_meth0 (pe_fld (pv 0) rfl) T.cls_Crank T.m_Crank_is_known.mt (ok_Crank_is_known T) (hr.mono (by decide)) T.m_Crank_is_known.bd .nil pass0)) (pe_fld (pe_fld (pv 0) rfl) rfl) (pgi T.g_TURN_NOT_KNOWN)))
      (pss_one (ps_ret (pe_op op_cat (pe_op op_cat (pe_lst (pa_cons pe_int pa_nil)) (pv 1)) (pe_lst (pa_cons (pv 3) (pa_cons (pv 4) pa_nil))))))))), ?_⟩
  try dsimp only [cxK]
  obtain ⟨⟨edx, pa, pf, cp, lp, cdx, c, as, B⟩, k⟩ := h
  have he := B.e
  have hc := B.k
  have nl : s.coils.length = 4 := B.y.len.symm.trans B.n
  walk_at "rd"
  refine ⟨lp, rfl, ⟨_, SqL.of B.l⟩, fun D hD => lc_list (K := K) (a := lp) (xs := as.map V.ref) (fun i H' => Same H H' ∧ H' D = some (.lst ((s.coils.take i).map fun x => V.int ((Ks209.coilOut x.st : Nat) : Int)))) ⟨(Same.refl H).n hD, upd_same⟩ (fun i H' _ f => SqL.of (f.1 _ _ B.l)) ?_ ?_⟩
  · rintro i y H' hi ⟨f, l⟩
    obtain ⟨a, ha, rfl⟩ := map_ref hi
    obtain ⟨x, dx, hx, hax⟩ := B.y.get ha
    have hax' := f _ _ hax
    walk_at "rd"
    refine ⟨rfl, ?_⟩
    walk_at "rd"
    refine ⟨_, l, by rw [List.length_map, line_is, List.length_take]; omega, f.n hD, ?_⟩
    rw [upd_same, take_snoc hx, List.map_append]
    rfl
  · rintro H' ⟨f, l⟩
    rw [List.length_map, List.take_of_length_le (by rw [nl, B.n]; exact Nat.le_refl 4)] at l
    have B1 := B.same f
    have he1 := B1.e
    have hc1 := B1.k
    have k1 : ∀ (H2 : Hp) (q : Addr), Same H' H2 → H2 q = some (.lst ((ansOf s .state).map V.int)) → H' q = none → Q (.ref q) H2 := fun H2 q g h n => k H2 q ((B1.same g).eng) h (f.free n) (f.kp.trans g.kp)
    rw [state_ans, state_place B.r, (state_turn B.r).1] at k1
    have kn := (state_turn B.r).2
    walk_at "rd"
    refine ⟨cp, cdx, c, rfl, hc1, ?_⟩
    walk_at "rd"
    refine rd_ite (fun e1 => ?_) (fun e1 => ?_)
    · have e1 : c.ce = 2 := of_decide_eq_true e1
      rw [if_pos e1] at k1
      walk_at "rd"
      refine ⟨cp, cdx, c, rfl, hc1, ?_⟩
      walk_at "rd"
      refine rd_ite (fun e2 => ?_) (fun e2 => ?_)
      · cases q : c.tu with
        | none =>
          unfold Ck.known at e2
          rw [q] at e2
          simp at e2
        | some r =>
          dsimp only [OC] at hc1
          rw [q] at k1 hc1
          walk_at "rd"
          refine ⟨Nat.le_of_ble_eq_true rfl, fun q0 hq0 => ?_⟩
          have t1 : Same H' (upd H' q0 (.lst [.int 0])) := (Same.refl H').n hq0
          walk_at "rd"
          refine rd_cat upd_same (t1 _ _ l) (by rw [List.length_map, nl, line_is]; decide) fun q1 hq1 => ?_
          walk_at "rd"
          refine ⟨Nat.le_of_ble_eq_true rfl, fun q2 hq2 => ?_⟩
          walk_at "rd"
          refine rd_cat ((upd_ne (ne_of_none upd_same hq2)).trans upd_same) upd_same (by rw [List.length_append, List.length_map, nl, line_is]; show 1 + 4 + 2 ≤ 16777216; decide) fun q3 hq3 => ?_
          refine k1 _ q3 (((t1.n (t1.free hq1)).n (t1.free (upd_none hq2).1)).n (t1.free (upd_none (upd_none hq3).1).1)) ?_ (t1.free (upd_none (upd_none hq3).1).1)
          rw [upd_same, List.map_cons, List.map_append, List.map_map]
          rfl
      · rw [kn e2] at k1
        walk_at "rd"
        refine ⟨Nat.le_of_ble_eq_true rfl, fun q0 hq0 => ?_⟩
        have t1 : Same H' (upd H' q0 (.lst [.int 0])) := (Same.refl H').n hq0
        walk_at "rd"
        refine rd_cat upd_same (t1 _ _ l) (by rw [List.length_map, nl, line_is]; decide) fun q1 hq1 => ?_
        walk_at "rd"
        refine ⟨Nat.le_of_ble_eq_true rfl, fun q2 hq2 => ?_⟩
        walk_at "rd"
        refine rd_cat ((upd_ne (ne_of_none upd_same hq2)).trans upd_same) upd_same (by rw [List.length_append, List.length_map, nl, line_is]; show 1 + 4 + 2 ≤ 16777216; decide) fun q3 hq3 => ?_
        refine k1 _ q3 (((t1.n (t1.free hq1)).n (t1.free (upd_none hq2).1)).n (t1.free (upd_none (upd_none hq3).1).1)) ?_ (t1.free (upd_none (upd_none hq3).1).1)
        rw [upd_same, List.map_cons, List.map_append, List.map_map]
        rfl
    · have e1 : ¬ c.ce = 2 := of_decide_eq_false e1
      rw [if_neg e1] at k1
      walk_at "rd"
      refine ⟨cp, cdx, c, rfl, hc1, ?_⟩
      have e2 : c.known = false := by
        unfold Ck.known
        rw [decide_eq_false e1, Bool.false_and]
      rw [kn e2] at k1
      walk_at "rd"
      refine rd_ite (fun e3 => absurd (e3.symm.trans e2) (by decide)) (fun _ => ?_)
      walk_at "rd"
      refine ⟨Nat.le_of_ble_eq_true rfl, fun q0 hq0 => ?_⟩
      have t1 : Same H' (upd H' q0 (.lst [.int 0])) := (Same.refl H').n hq0
      walk_at "rd"
      refine rd_cat upd_same (t1 _ _ l) (by rw [List.length_map, nl, line_is]; decide) fun q1 hq1 => ?_
      walk_at "rd"
      refine ⟨Nat.le_of_ble_eq_true rfl, fun q2 hq2 => ?_⟩
      walk_at "rd"
      refine rd_cat ((upd_ne (ne_of_none upd_same hq2)).trans upd_same) upd_same (by rw [List.length_append, List.length_map, nl, line_is]; show 1 + 4 + 2 ≤ 16777216; decide) fun q3 hq3 => ?_
      refine k1 _ q3 (((t1.n (t1.free hq1)).n (t1.free (upd_none hq2).1)).n (t1.free (upd_none (upd_none hq3).1).1)) ?_ (t1.free (upd_none (upd_none hq3).1).1)
      rw [upd_same, List.map_cons, List.map_append, List.map_map]
      rfl
end
end Et

set_option Elab.async false
set_option linter.all false
set_option maxRecDepth 100000
set_option maxHeartbeats 4000000
namespace Et
open PySem PySem.Spec PyProof.Rows L2
open PySem.W (Codec)
local macro_rules | `(tactic| walk_at "at") => `(tactic| first | assumption | exact upd_same | (refine (upd_ne (by assumption)).trans ?_; walk_at "at"))
local macro_rules | `(tactic| walk_at "rd") => `(tactic| repeat (first
  | with_reducible refine rd_seq ?_
  | with_reducible refine rd_ret ?_
  | with_reducible refine rd_retN ?_
  | with_reducible refine rd_drop ?_
  | with_reducible refine rd_asg ?_
  | with_reducible refine rd_name ?_
  | with_reducible refine rd_next ?_
  | with_reducible refine rd_if ?_
  | with_reducible refine rd_test ?_
  | with_reducible refine rd_tB ?_
  | with_reducible refine rd_and ?_
  | with_reducible refine rd_or ?_
  | with_reducible refine rd_not ?_
  | with_reducible refine rd_andV ?_
  | with_reducible refine rd_orV ?_
  | with_reducible refine rd_notV ?_
  | with_reducible refine rd_ifE ?_
  | with_reducible refine rd_op ?_
  | with_reducible refine rd_chain ?_
  | with_reducible refine rd_C ?_
  | ((with_reducible refine rd_varE ?_); refine ⟨_, rfl, ?_⟩)
  | with_reducible refine rd_rI0 ?_
  | with_reducible refine rd_eqI ?_
  | with_reducible refine rd_neI ?_
  | with_reducible refine rd_get ?_
  | with_reducible refine rd_put ?_
  | with_reducible refine rd_met ?_
  | with_reducible refine rd_cal ?_
  | with_reducible refine rd_mak ?_
  | with_reducible refine rd_cb ?_
  | with_reducible refine rd_nil ?_
  | with_reducible refine rd_cons ?_
  | with_reducible refine rd_lst ?_
  | with_reducible refine rd_tup ?_
  | with_reducible refine rd_sl ?_
  | with_reducible refine rd_part ?_
  | with_reducible refine rd_nopart ?_
  | with_reducible refine rd_bm ?_
  | with_reducible refine rd_bl ?_
  | with_reducible refine rd_blV ?_
  | with_reducible refine rd_intV ?_
  | with_reducible refine iteT ?_
  | with_reducible refine iteF ?_
  | with_reducible refine rd_itNT ?_
  | with_reducible refine rd_itNF ?_
  | with_reducible refine rd_for ?_
  | with_reducible refine rd_lcL ?_
  | with_reducible refine rd_lcR ?_
  | with_reducible refine rd_yes ?_
  | with_reducible refine rd_listT (SqL.of (by walk_at "at")) ?_
  | with_reducible refine rd_isNn ?_
  | with_reducible refine rd_isNi ?_
  | with_reducible refine rd_notNn ?_
  | with_reducible refine rd_notNi ?_
  | with_reducible refine rd_eqNi ?_
  | with_reducible refine rd_max2 ?_
  | with_reducible refine rd_min2 ?_
  | with_reducible refine rd_mulL (by decide) ?_
  | with_reducible refine rd_div (by decide) ?_
  | with_reducible refine rd_mod (by decide) ?_
  | with_reducible refine ⟨_, fld_Crank_last_time (by assumption) (by walk_at "at"), ?_⟩
  | with_reducible refine ⟨_, st_Crank_last_time (by assumption) (by walk_at "at"), ?_⟩
  | with_reducible refine ⟨_, fld_Crank_interval (by assumption) (by walk_at "at"), ?_⟩
  | with_reducible refine ⟨_, st_Crank_interval (by assumption) (by walk_at "at"), ?_⟩
  | with_reducible refine ⟨_, fld_Crank_certainty (by assumption) (by walk_at "at"), ?_⟩
  | with_reducible refine ⟨_, st_Crank_certainty (by assumption) (by walk_at "at"), ?_⟩
  | with_reducible refine ⟨_, fld_Crank_place (by assumption) (by walk_at "at"), ?_⟩
  | with_reducible refine ⟨_, st_Crank_place (by assumption) (by walk_at "at"), ?_⟩
  | with_reducible refine ⟨_, fld_Crank_turn (by assumption) (by walk_at "at"), ?_⟩
  | with_reducible refine ⟨_, st_Crank_turn (by assumption) (by walk_at "at"), ?_⟩
  | with_reducible refine ⟨_, fld_Crank_cam_told (by assumption) (by walk_at "at"), ?_⟩
  | with_reducible refine ⟨_, st_Crank_cam_told (by assumption) (by walk_at "at"), ?_⟩
  | with_reducible refine ⟨rc_Crank (by walk_at "at"), ?_⟩
  | with_reducible refine ⟨_, fld_Cylinder_number (by assumption) (by walk_at "at"), ?_⟩
  | with_reducible refine ⟨_, st_Cylinder_number (by assumption) (by walk_at "at"), ?_⟩
  | with_reducible refine ⟨_, fld_Cylinder_phase (by assumption) (by walk_at "at"), ?_⟩
  | with_reducible refine ⟨_, st_Cylinder_phase (by assumption) (by walk_at "at"), ?_⟩
  | with_reducible refine ⟨_, fld_Cylinder_went_on (by assumption) (by walk_at "at"), ?_⟩
  | with_reducible refine ⟨_, st_Cylinder_went_on (by assumption) (by walk_at "at"), ?_⟩
  | with_reducible refine ⟨_, fld_Cylinder_off (by assumption) (by walk_at "at"), ?_⟩
  | with_reducible refine ⟨_, st_Cylinder_off (by assumption) (by walk_at "at"), ?_⟩
  | with_reducible refine ⟨rc_Cylinder (by walk_at "at"), ?_⟩
  | with_reducible refine ⟨_, fld_Moment_now (by assumption) (by walk_at "at"), ?_⟩
  | with_reducible refine ⟨_, st_Moment_now (by assumption) (by walk_at "at"), ?_⟩
  | with_reducible refine ⟨_, fld_Moment_position (by assumption) (by walk_at "at"), ?_⟩
  | with_reducible refine ⟨_, st_Moment_position (by assumption) (by walk_at "at"), ?_⟩
  | with_reducible refine ⟨_, fld_Moment_pace (by assumption) (by walk_at "at"), ?_⟩
  | with_reducible refine ⟨_, st_Moment_pace (by assumption) (by walk_at "at"), ?_⟩
  | with_reducible refine ⟨_, fld_Moment_span (by assumption) (by walk_at "at"), ?_⟩
  | with_reducible refine ⟨_, st_Moment_span (by assumption) (by walk_at "at"), ?_⟩
  | with_reducible refine ⟨rc_Moment (by walk_at "at"), ?_⟩
  | with_reducible refine ⟨_, fld_Timing_dwell (by assumption) (by walk_at "at"), ?_⟩
  | with_reducible refine ⟨_, st_Timing_dwell (by assumption) (by walk_at "at"), ?_⟩
  | with_reducible refine ⟨_, fld_Timing_most (by assumption) (by walk_at "at"), ?_⟩
  | with_reducible refine ⟨_, st_Timing_most (by assumption) (by walk_at "at"), ?_⟩
  | with_reducible refine ⟨_, fld_Timing_advance (by assumption) (by walk_at "at"), ?_⟩
  | with_reducible refine ⟨_, st_Timing_advance (by assumption) (by walk_at "at"), ?_⟩
  | with_reducible refine ⟨_, fld_Timing_fuel (by assumption) (by walk_at "at"), ?_⟩
  | with_reducible refine ⟨_, st_Timing_fuel (by assumption) (by walk_at "at"), ?_⟩
  | with_reducible refine ⟨rc_Timing (by walk_at "at"), ?_⟩
  | with_reducible refine ⟨_, fld_Engine_dwell (by assumption) (by walk_at "at"), ?_⟩
  | with_reducible refine ⟨_, st_Engine_dwell (by assumption) (by walk_at "at"), ?_⟩
  | with_reducible refine ⟨_, fld_Engine_most (by assumption) (by walk_at "at"), ?_⟩
  | with_reducible refine ⟨_, st_Engine_most (by assumption) (by walk_at "at"), ?_⟩
  | with_reducible refine ⟨_, fld_Engine_advances (by assumption) (by walk_at "at"), ?_⟩
  | with_reducible refine ⟨_, st_Engine_advances (by assumption) (by walk_at "at"), ?_⟩
  | with_reducible refine ⟨_, fld_Engine_fuels (by assumption) (by walk_at "at"), ?_⟩
  | with_reducible refine ⟨_, st_Engine_fuels (by assumption) (by walk_at "at"), ?_⟩
  | with_reducible refine ⟨_, fld_Engine_load_now (by assumption) (by walk_at "at"), ?_⟩
  | with_reducible refine ⟨_, st_Engine_load_now (by assumption) (by walk_at "at"), ?_⟩
  | with_reducible refine ⟨_, fld_Engine_crank (by assumption) (by walk_at "at"), ?_⟩
  | with_reducible refine ⟨_, st_Engine_crank (by assumption) (by walk_at "at"), ?_⟩
  | with_reducible refine ⟨_, fld_Engine_cylinders (by assumption) (by walk_at "at"), ?_⟩
  | with_reducible refine ⟨_, st_Engine_cylinders (by assumption) (by walk_at "at"), ?_⟩
  | with_reducible refine ⟨rc_Engine (by walk_at "at"), ?_⟩
  ))

section
variable {P : Program} {w : World} {K : PySem.W.Frag} {mg : Str → Option Value} {base : Heap} {A : Adr} {zz : Addr}

/-! ### begin, start -/
def sp_Engine_begin (K : PySem.W.Frag) (A : Adr) : Sp := fun vs H Q _ => ∃ (ep edx : Addr) (fs : List (Str × V)) (dwell most : Nat) (pa pf : Addr), vs = [.ref ep, .int (dwell : Nat), .int (most : Nat), .ref pa, .ref pf] ∧ H ep = some (.ins A.aEngine edx fs) ∧ fs.length ≤ 7 ∧
  (∀ v0 v1 v2 v3 v4 v5 v6 : V, putF "cylinders" v6 (putF "crank" v5 (putF "load_now" v4 (putF "fuels" v3 (putF "advances" v2 (putF "most" v1 (putF "dwell" v0 fs)))))) = L_Engine v0 v1 v2 v3 v4 v5 v6) ∧
  ∀ (H' : Hp) (cp cdx lp : Addr) (as : List Addr), H' ep = some (OE A edx dwell most pa pf 0 cp lp) → H' cp = some (OC A cdx Ck.new) → H' lp = some (.lst (as.map V.ref)) → as.length = 4 → CylsAt A H' as Ks209.idle → H lp = none → Fr1 ep H H' → Q .non H'
theorem put_len {f : Str} {v : V} {fs : List (Str × V)} {n : Nat} (h : fs.length ≤ n) : (putF f v fs).length ≤ n + 1 := Nat.le_trans (length_putF f v fs) (Nat.succ_le_succ h)
/-- one more cylinder -/
theorem CylsAt.more {H : Hp} {as : List Addr} {i : Nat} {x dx : Addr} (Y : CylsAt A H as (List.replicate i ⟨.idle, 0, 0⟩)) (h : H x = some (OY A dx i ⟨.idle, 0, 0⟩)) : CylsAt A H (as ++ [x]) (List.replicate (i + 1) ⟨.idle, 0, 0⟩) := by
  have n : as.length = i := by
    rw [Y.len, List.length_replicate]
  refine ⟨by rw [List.length_append, n, List.length_replicate]; rfl, fun j a y ha hy => ?_⟩
  have l := (List.getElem?_eq_some_iff.mp hy).1
  rw [List.length_replicate] at l
  rw [List.getElem?_replicate, if_pos l] at hy
  cases hy
  by_cases e : j < i
  · rw [List.getElem?_append_left (by omega)] at ha
    exact Y.at_ j a _ ha (by rw [List.getElem?_replicate, if_pos e])
  · have e : j = i := by omega
    subst e
    rw [List.getElem?_append_right (by omega), n, Nat.sub_self] at ha
    cases ha
    exact ⟨dx, h⟩
theorem ok_Engine_begin (T : Txt K mg A) : FnOk P w K mg base CX0 3 A.f_Engine_begin A.d_Engine_begin ["self", "dwell", "most", "advances", "fuels"] (sp_Engine_begin K A) := by
  refine T.m_Engine_begin.fn.ok sc_Engine_begin (fun vs H Q E h => ?_) (fun cdv A0 outer s H vs Q E hr h => ?_)
  · obtain ⟨ep, edx, fs, dwell, most, pa, pf, rfl, _⟩ := h
    rfl
  obtain ⟨ep, edx, fs, dwell, most, pa, pf, rfl, h⟩ := h
  refine ⟨_, (pss_cons (ps_fld (pv 0) (pv 1) rfl)
      (pss_cons (ps_fld (pv 0) (pv 2) rfl)
      (pss_cons (ps_fld (pv 0) (pv 3) rfl)
      (pss_cons (ps_fld (pv 0) (pv 4) rfl)
      (pss_cons (ps_fld (pv 0) pe_int rfl)
      (pss_cons (ps_fld (pv 0) (pe_make0 T.mk_Crank (ok_Crank___init__ T) (hr.mono (by decide)) rfl T.c_Crank T.m_Crank___init__.bd .nil pass0) rfl)
      (pss_one (ps_fld (pv 0) (pe_lc (own := [("number", 5)]) rfl sc_Engine_begin.nd (pi_range1 rfl T.n_range (pa_cons (pgi T.g_CYLINDERS) pa_nil)) (blkOk_by (show blkC ["self", "dwell", "most", "advances", "fuels", "number"] (defScope s_Engine_begin) _ [("number", 5)] = true by decide +kernel)) (fun _ _ _ _ _ => pg_name (i := 5) sc_Engine_begin.nd rfl (Or.inl rfl)) (fun _ _ _ _ _ => pts_nil) (fun _ _ _ _ _ => (pe_make T.mk_Cylinder (ok_Cylinder___init__ T) (hr.mono (by decide)) rfl T.c_Cylinder T.m_Cylinder___init__.bd .nil pass0 (pa_cons (pv 5) pa_nil)))) rfl)))))))), ?_⟩
  try dsimp only [cxK]
  obtain ⟨he, n7, hput, k⟩ := h
  have l0 := put_len (f := "dwell") (v := V.int (dwell : Nat)) n7
  have l1 := put_len (f := "most") (v := V.int (most : Nat)) l0
  have l2 := put_len (f := "advances") (v := V.ref pa) l1
  have l3 := put_len (f := "fuels") (v := V.ref pf) l2
  have l4 := put_len (f := "load_now") (v := V.int 0) l3
  walk_at "rd"
  refine ⟨_, st_any he T.cls_Engine T.n_Engine_dwell (by omega), ?_⟩
  walk_at "rd"
  refine ⟨_, st_any upd_same T.cls_Engine T.n_Engine_most (by omega), ?_⟩
  walk_at "rd"
  refine ⟨_, st_any upd_same T.cls_Engine T.n_Engine_advances (by omega), ?_⟩
  walk_at "rd"
  refine ⟨_, st_any upd_same T.cls_Engine T.n_Engine_fuels (by omega), ?_⟩
  walk_at "rd"
  refine ⟨_, st_any upd_same T.cls_Engine T.n_Engine_load_now (by omega), ?_⟩
  simp only [upd_upd]
  have f5 : Fr1 ep H (upd H ep (HO.ins A.aEngine edx (putF "load_now" (V.int 0) (putF "fuels" (V.ref pf) (putF "advances" (V.ref pa) (putF "most" (V.int (most : Nat)) (putF "dwell" (V.int (dwell : Nat)) fs))))))) := Fr1.refl.u
  have e5 : upd H ep (HO.ins A.aEngine edx (putF "load_now" (V.int 0) (putF "fuels" (V.ref pf) (putF "advances" (V.ref pa) (putF "most" (V.int (most : Nat)) (putF "dwell" (V.int (dwell : Nat)) fs)))))) ep = some _ := upd_same
  generalize upd H ep (HO.ins A.aEngine edx (putF "load_now" (V.int 0) (putF "fuels" (V.ref pf) (putF "advances" (V.ref pa) (putF "most" (V.int (most : Nat)) (putF "dwell" (V.int (dwell : Nat)) fs)))))) = H5 at f5 e5 ⊢
  walk_at "rd"
  intro x dx hx hdx ne
  refine ⟨x, dx, rfl, upd_same, fun H6 h6 f6 => ⟨rfl, ?_⟩⟩
  have s6 : Same H5 H6 := Same.made hx hdx f6
  have nx : x ≠ ep := fun q => ne_of_none e5 hx q.symm
  walk_at "rd"
  refine ⟨_, st_any (s6 _ _ e5) T.cls_Engine T.n_Engine_crank (by omega), ?_⟩
  have f7 : Fr1 ep H6 (upd H6 ep (HO.ins A.aEngine edx (putF "crank" (V.ref x) (putF "load_now" (V.int 0) (putF "fuels" (V.ref pf) (putF "advances" (V.ref pa) (putF "most" (V.int (most : Nat)) (putF "dwell" (V.int (dwell : Nat)) fs)))))))) := Fr1.refl.u
  have e7 : upd H6 ep (HO.ins A.aEngine edx (putF "crank" (V.ref x) (putF "load_now" (V.int 0) (putF "fuels" (V.ref pf) (putF "advances" (V.ref pa) (putF "most" (V.int (most : Nat)) (putF "dwell" (V.int (dwell : Nat)) fs))))))) ep = some _ := upd_same
  generalize upd H6 ep (HO.ins A.aEngine edx (putF "crank" (V.ref x) (putF "load_now" (V.int 0) (putF "fuels" (V.ref pf) (putF "advances" (V.ref pa) (putF "most" (V.int (most : Nat)) (putF "dwell" (V.int (dwell : Nat)) fs))))))) = H7 at f7 e7 ⊢
  have h7 := f7 _ _ h6 nx
  have l5 := put_len (f := "crank") (v := V.ref x) l4
  walk_at "rd"
  refine ⟨4, rfl, by decide, by decide, fun D hD => lc_range (lo := 0) (n := 4) (fun i H' => ∃ as : List Addr, as.length = i ∧ H' D = some (.lst (as.map V.ref)) ∧ CylsAt A H' as (List.replicate i ⟨.idle, 0, 0⟩) ∧ Same H7 H' ∧ ∀ a ∈ as, H7 a = none)
    ⟨[], rfl, upd_same, ⟨rfl, fun j a y ha _ => by simp at ha⟩, (Same.refl H7).n hD, fun a m => by simp at m⟩ ?_ ?_⟩
  · rintro i H' hi ⟨as, n, l, Y, f, fr⟩
    walk_at "rd"
    refine ⟨rfl, ?_⟩
    walk_at "rd"
    intro y dy hy hdy ney
    refine ⟨y, dy, i, by rw [Int.zero_add], upd_same, fun H2 h2 f2 => ⟨rfl, ?_⟩⟩
    have s2 : Same H' H2 := Same.made hy hdy f2
    have l2' := s2 _ _ l
    refine ⟨_, l2', by rw [List.length_map, n, line_is]; omega, as ++ [y], by rw [List.length_append, n]; rfl, by rw [upd_same, List.map_append]; rfl, ?_, (f.trans s2).n hD, ?_⟩
    · have Y2 : CylsAt A H2 as (List.replicate i ⟨.idle, 0, 0⟩) := Y.keep fun a _ o q => s2 a o q
      refine (Y2.more h2).keep fun a m o q => ?_
      have na : a ≠ D := by
        obtain ⟨j, hj⟩ := List.getElem?_of_mem m
        obtain ⟨z, dz, _, e⟩ := (Y2.more h2).get hj
        exact ne_of e l2' (Ne.symm lst_ne)
      rw [upd_ne na]
      exact q
    · intro a m
      rcases List.mem_append.mp m with m | m
      · exact fr a m
      · cases List.mem_singleton.mp m
        exact f.free hy
  · rintro H' ⟨as, n, l, Y, f, fr⟩
    walk_at "rd"
    refine ⟨_, st_any (f _ _ e7) T.cls_Engine T.n_Engine_cylinders (by omega), ?_⟩
    rw [hput]
    have nD : D ≠ ep := fun q => ne_of_none e7 hD q.symm
    have hD5 : H5 D = none := by
      cases q : H5 D with
      | none => rfl
      | some o => rw [f7 _ _ (s6 _ _ q) nD] at hD; cases hD
    refine k _ x dx D as upd_same ((upd_ne nx).trans (f _ _ h7)) ((upd_ne nD).trans l) n ?_ (f5.free e5 hD5) ?_
    · refine Y.keep fun a m o q => ?_
      have na : a ≠ ep := fun z => ne_of_none e7 (fr a m) z.symm
      rw [upd_ne na]
      exact q
    · exact fun b o h nb => (upd_ne nb).trans (f _ _ (f7 _ _ (s6 _ _ (f5 _ _ h nb)) nb))
def sp_Engine___init__ (K : PySem.W.Frag) (A : Adr) : Sp := fun vs H Q _ => ∃ (p dx : Addr), vs = [.ref p] ∧ H p = some (.ins A.aEngine dx []) ∧ ∀ (H' : Hp) (v0 v1 v2 v3 v4 v5 v6 : V), H' p = some (.ins A.aEngine dx (L_Engine v0 v1 v2 v3 v4 v5 v6)) → Fr1 p H H' → Q .non H'
theorem ok_Engine___init__ (T : Txt K mg A) : FnOk P w K mg base CX0 4 A.f_Engine___init__ A.d_Engine___init__ ["self"] (sp_Engine___init__ K A) := by
  refine T.m_Engine___init__.fn.ok sc_Engine___init__ (fun vs H Q E h => ?_) (fun cdv A0 outer s H vs Q E hr h => ?_)
  · obtain ⟨p, dx, rfl, _⟩ := h
    rfl
  obtain ⟨p, dx, rfl, h⟩ := h
  refine ⟨_, (pss_one (ps_expr (pe_meth (pv 0) T.cls_Engine T.m_Engine_begin.mt (ok_Engine_begin T) (hr.mono (by decide)) T.m_Engine_begin.bd .nil pass0 (pa_cons pe_int (pa_cons pe_int (pa_cons (pe_lst pa_nil) (pa_cons (pe_lst pa_nil) pa_nil))))))), ?_⟩
  try dsimp only [cxK]
  obtain ⟨hp, k⟩ := h
  walk_at "rd"
  refine ⟨⟨p, dx, [], rfl, hp, rfl⟩, ?_⟩
  walk_at "rd"
  refine ⟨Nat.zero_le _, fun q hq => ?_⟩
  walk_at "rd"
  refine ⟨Nat.zero_le _, fun q2 hq2 => ?_⟩
  have s1 : Same H (upd H q (.lst [])) := (Same.refl H).n hq
  have s2 : Same (upd H q (.lst [])) (upd (upd H q (.lst [])) q2 (.lst [])) := (Same.refl _).n hq2
  refine ⟨p, dx, [], 0, 0, q, q2, rfl, s2 _ _ (s1 _ _ hp), Nat.zero_le _, fun _ _ _ _ _ _ _ => rfl, fun H' cp cdx lp as e _ _ _ _ _ f => ?_⟩
  exact k H' _ _ _ _ _ _ _ e fun b o h nb => f _ _ (s2 _ _ (s1 _ _ h)) nb
def sp_Engine_start (K : PySem.W.Frag) (A : Adr) : Sp := fun vs H Q _ => ∃ (zz ep edx : Addr) (v0 v1 v2 v3 v4 v5 v6 : V) (hw : Ks209.How) (pa pf : Addr), vs = [.ref ep, .int (hw.dwell : Nat), .int (hw.most : Nat), .ref pa, .ref pf] ∧ H ep = some (.ins A.aEngine edx (L_Engine v0 v1 v2 v3 v4 v5 v6)) ∧
  H pa = some (.lst (hw.advance.map V.int)) ∧ H pf = some (.lst (hw.fuel.map V.int)) ∧ hw.advance.length = 256 ∧ hw.fuel.length = 256 ∧ (∃ o, H zz = some o) ∧ pa ≠ zz ∧ pf ≠ zz ∧
  (Ks209.okHow hw = true → ∀ (H' : Hp) (q : Addr), Eng A zz H' ep (Ks209.start hw) → H' q = some (.lst [.int 0]) → H q = none → Kp H H' → Q (.ref q) H') ∧ (Ks209.okHow hw = false → ∀ q, H q = none → Q (.ref q) (upd H q (.lst [.int (-22)])))
theorem not_ok {hw : Ks209.How} (h : ¬ (1 ≤ hw.dwell ∧ hw.dwell ≤ hw.most ∧ hw.most ≤ 65536 ∧ (∀ z ∈ hw.advance, 0 ≤ z ∧ z ≤ 1024) ∧ ∀ z ∈ hw.fuel, 0 ≤ z)) : Ks209.okHow hw = false := by
  cases q : Ks209.okHow hw with
  | false => rfl
  | true => exact absurd ((ok_iff hw).mp q) h
theorem ok_Engine_start (T : Txt K mg A) : FnOk P w K mg base CX0 4 A.f_Engine_start A.d_Engine_start ["self", "dwell", "most", "advances", "fuels"] (sp_Engine_start K A) := by
  refine T.m_Engine_start.fn.ok sc_Engine_start (fun vs H Q E h => ?_) (fun cdv A0 outer s H vs Q E hr h => ?_)
  · obtain ⟨zz, ep, edx, v0, v1, v2, v3, v4, v5, v6, hw, pa, pf, rfl, _⟩ := h
    rfl
  obtain ⟨zz, ep, edx, v0, v1, v2, v3, v4, v5, v6, hw, pa, pf, rfl, h⟩ := h
  refine ⟨_, (pss_cons (ps_if (pw_or (pt_cmpR op_eq (pv 1) pe_int (nomark _)) (pw_or (pt_cmpR op_gt (pv 1) (pv 2) (nomark _)) (pw_or1 (pt_cmpR op_gt (pv 2) (pgi T.g_LONGEST_MOST) (nomark _))))).pt (pss_one (ps_ret (pe_lst (pa_cons (pgi T.g_REFUSED) pa_nil)))) pss_nil)
      (pss_cons (ps_if (pw_or (pt_cmpR op_lt (pe_callB (cr_min rfl) (by rfl) T.n_min boot_min (pa_cons (pv 3) pa_nil)) pe_int (nomark _)) (pw_or (pt_cmpR op_gt (pe_callB (cr_max rfl) (by rfl) T.n_max boot_max (pa_cons (pv 3) pa_nil)) (pgi T.g_MOST_ADVANCE) (nomark _)) (pw_or1 (pt_cmpR op_lt (pe_callB (cr_min rfl) (by rfl) T.n_min boot_min (pa_cons (pv 4) pa_nil)) pe_int (nomark _))))).pt (pss_one (ps_ret (pe_lst (pa_cons (pgi T.g_REFUSED) pa_nil)))) pss_nil)
      (pss_cons (ps_expr (pe_meth (pv 0) T.cls_Engine T.m_Engine_begin.mt (ok_Engine_begin T) (hr.mono (by decide)) T.m_Engine_begin.bd .nil pass0 (pa_cons (pv 1) (pa_cons (pv 2) (pa_cons (pv 3) (pa_cons (pv 4) pa_nil))))))
      (pss_one (ps_ret (pe_lst (pa_cons pe_int pa_nil))))))), ?_⟩
  try dsimp only [cxK]
  obtain ⟨he, ha, hf, la, lf, ⟨oz, hz⟩, za, zf, ky, kn⟩ := h
  walk_at "rd"
  refine rd_ite (fun e1 => ?_) (fun e1 => ?_)
  · have e1 := of_decide_eq_true e1
    walk_at "rd"
    exact ⟨Nat.le_of_ble_eq_true rfl, kn (not_ok fun q => by have := q.1; omega)⟩
  have e1 := of_decide_eq_false e1
  walk_at "rd"
  refine rd_ite (fun e2 => ?_) (fun e2 => ?_)
  · have e2 := of_decide_eq_true e2
    walk_at "rd"
    exact ⟨Nat.le_of_ble_eq_true rfl, kn (not_ok fun q => by have := q.2.1; omega)⟩
  have e2 := of_decide_eq_false e2
  walk_at "rd"
  refine rd_ite (fun e3 => ?_) (fun e3 => ?_)
  · have e3 := of_decide_eq_true e3
    walk_at "rd"
    exact ⟨Nat.le_of_ble_eq_true rfl, kn (not_ok fun q => by have := q.2.2.1; omega)⟩
  have e3 := of_decide_eq_false e3
  walk_at "rd"
  refine ⟨pa, hw.advance, rfl, SqL.of ha, by omega, fun m1 hm1 min1 => ?_⟩
  walk_at "rd"
  refine rd_ite (fun e4 => ?_) (fun e4 => ?_)
  · have e4 := of_decide_eq_true e4
    walk_at "rd"
    exact ⟨Nat.le_of_ble_eq_true rfl, kn (not_ok fun q => by have := (q.2.2.2.1 m1 hm1).1; omega)⟩
  have e4 := of_decide_eq_false e4
  walk_at "rd"
  refine ⟨pa, hw.advance, rfl, SqL.of ha, by omega, fun m2 hm2 max2 => ?_⟩
  walk_at "rd"
  refine rd_ite (fun e5 => ?_) (fun e5 => ?_)
  · have e5 := of_decide_eq_true e5
    walk_at "rd"
    exact ⟨Nat.le_of_ble_eq_true rfl, kn (not_ok fun q => by have := (q.2.2.2.1 m2 hm2).2; omega)⟩
  have e5 := of_decide_eq_false e5
  walk_at "rd"
  refine ⟨pf, hw.fuel, rfl, SqL.of hf, by omega, fun m3 hm3 min3 => ?_⟩
  walk_at "rd"
  refine rd_ite (fun e6 => ?_) (fun e6 => ?_)
  · have e6 := of_decide_eq_true e6
    walk_at "rd"
    exact ⟨Nat.le_of_ble_eq_true rfl, kn (not_ok fun q => by have := q.2.2.2.2 m3 hm3; omega)⟩
  have e6 := of_decide_eq_false e6
  have ok : Ks209.okHow hw = true := (ok_iff hw).mpr ⟨by omega, by omega, by omega, fun z mz => ⟨by have := min1 z mz; omega, by have := max2 z mz; omega⟩, fun z mz => by have := min3 z mz; omega⟩
  walk_at "rd"
  refine ⟨ep, edx, _, hw.dwell, hw.most, pa, pf, rfl, he, Nat.le_refl 7, fun _ _ _ _ _ _ _ => rfl, fun H1 cp cdx lp as e c l n y fl f => ?_⟩
  have E1 : EngAt A zz H1 ep (Ks209.start hw) edx pa pf cp lp cdx Ck.new as := ⟨e, f _ _ ha (ne_of ha he lst_ne), f _ _ hf (ne_of hf he lst_ne), c, rel_new, l, y, n, Nat.zero_le _, ok, la, lf, za, zf, fun q => ne_of_none hz fl q.symm⟩
  walk_at "rd"
  refine ⟨Nat.le_of_ble_eq_true rfl, fun q hq => ?_⟩
  have s2 : Same H1 (upd H1 q (.lst [.int 0])) := (Same.refl H1).n hq
  exact ky ok _ q (E1.same s2).eng upd_same (f.free e hq) ((f.kp he e).trans s2.kp)
end
end Et

set_option Elab.async false
set_option linter.all false
set_option maxRecDepth 100000
set_option maxHeartbeats 4000000
namespace Et
open PySem PySem.Spec PyProof.Rows L2
open PySem.W (Codec)
local macro_rules | `(tactic| walk_at "at") => `(tactic| first | assumption | exact upd_same | (refine (upd_ne (by assumption)).trans ?_; walk_at "at"))
local macro_rules | `(tactic| walk_at "rd") => `(tactic| repeat (first
  | with_reducible refine rd_seq ?_
  | with_reducible refine rd_ret ?_
  | with_reducible refine rd_retN ?_
  | with_reducible refine rd_drop ?_
  | with_reducible refine rd_asg ?_
  | with_reducible refine rd_name ?_
  | with_reducible refine rd_next ?_
  | with_reducible refine rd_if ?_
  | with_reducible refine rd_test ?_
  | with_reducible refine rd_tB ?_
  | with_reducible refine rd_and ?_
  | with_reducible refine rd_or ?_
  | with_reducible refine rd_not ?_
  | with_reducible refine rd_andV ?_
  | with_reducible refine rd_orV ?_
  | with_reducible refine rd_notV ?_
  | with_reducible refine rd_ifE ?_
  | with_reducible refine rd_op ?_
  | with_reducible refine rd_chain ?_
  | with_reducible refine rd_C ?_
  | ((with_reducible refine rd_varE ?_); refine ⟨_, rfl, ?_⟩)
  | with_reducible refine rd_rI0 ?_
  | with_reducible refine rd_eqI ?_
  | with_reducible refine rd_neI ?_
  | with_reducible refine rd_get ?_
  | with_reducible refine rd_put ?_
  | with_reducible refine rd_met ?_
  | with_reducible refine rd_cal ?_
  | with_reducible refine rd_mak ?_
  | with_reducible refine rd_cb ?_
  | with_reducible refine rd_nil ?_
  | with_reducible refine rd_cons ?_
  | with_reducible refine rd_lst ?_
  | with_reducible refine rd_tup ?_
  | with_reducible refine rd_sl ?_
  | with_reducible refine rd_part ?_
  | with_reducible refine rd_nopart ?_
  | with_reducible refine rd_bm ?_
  | with_reducible refine rd_bl ?_
  | with_reducible refine rd_blV ?_
  | with_reducible refine rd_intV ?_
  | with_reducible refine iteT ?_
  | with_reducible refine iteF ?_
  | with_reducible refine rd_itNT ?_
  | with_reducible refine rd_itNF ?_
  | with_reducible refine rd_for ?_
  | with_reducible refine rd_lcL ?_
  | with_reducible refine rd_lcR ?_
  | with_reducible refine rd_yes ?_
  | with_reducible refine rd_listT (SqL.of (by walk_at "at")) ?_
  | with_reducible refine rd_isNn ?_
  | with_reducible refine rd_isNi ?_
  | with_reducible refine rd_notNn ?_
  | with_reducible refine rd_notNi ?_
  | with_reducible refine rd_eqNi ?_
  | with_reducible refine rd_max2 ?_
  | with_reducible refine rd_min2 ?_
  | with_reducible refine rd_mulL (by decide) ?_
  | with_reducible refine rd_div (by decide) ?_
  | with_reducible refine rd_mod (by decide) ?_
  | with_reducible refine ⟨_, fld_Crank_last_time (by assumption) (by walk_at "at"), ?_⟩
  | with_reducible refine ⟨_, st_Crank_last_time (by assumption) (by walk_at "at"), ?_⟩
  | with_reducible refine ⟨_, fld_Crank_interval (by assumption) (by walk_at "at"), ?_⟩
  | with_reducible refine ⟨_, st_Crank_interval (by assumption) (by walk_at "at"), ?_⟩
  | with_reducible refine ⟨_, fld_Crank_certainty (by assumption) (by walk_at "at"), ?_⟩
  | with_reducible refine ⟨_, st_Crank_certainty (by assumption) (by walk_at "at"), ?_⟩
  | with_reducible refine ⟨_, fld_Crank_place (by assumption) (by walk_at "at"), ?_⟩
  | with_reducible refine ⟨_, st_Crank_place (by assumption) (by walk_at "at"), ?_⟩
  | with_reducible refine ⟨_, fld_Crank_turn (by assumption) (by walk_at "at"), ?_⟩
  | with_reducible refine ⟨_, st_Crank_turn (by assumption) (by walk_at "at"), ?_⟩
  | with_reducible refine ⟨_, fld_Crank_cam_told (by assumption) (by walk_at "at"), ?_⟩
  | with_reducible refine ⟨_, st_Crank_cam_told (by assumption) (by walk_at "at"), ?_⟩
  | with_reducible refine ⟨rc_Crank (by walk_at "at"), ?_⟩
  | with_reducible refine ⟨_, fld_Cylinder_number (by assumption) (by walk_at "at"), ?_⟩
  | with_reducible refine ⟨_, st_Cylinder_number (by assumption) (by walk_at "at"), ?_⟩
  | with_reducible refine ⟨_, fld_Cylinder_phase (by assumption) (by walk_at "at"), ?_⟩
  | with_reducible refine ⟨_, st_Cylinder_phase (by assumption) (by walk_at "at"), ?_⟩
  | with_reducible refine ⟨_, fld_Cylinder_went_on (by assumption) (by walk_at "at"), ?_⟩
  | with_reducible refine ⟨_, st_Cylinder_went_on (by assumption) (by walk_at "at"), ?_⟩
  | with_reducible refine ⟨_, fld_Cylinder_off (by assumption) (by walk_at "at"), ?_⟩
  | with_reducible refine ⟨_, st_Cylinder_off (by assumption) (by walk_at "at"), ?_⟩
  | with_reducible refine ⟨rc_Cylinder (by walk_at "at"), ?_⟩
  | with_reducible refine ⟨_, fld_Moment_now (by assumption) (by walk_at "at"), ?_⟩
  | with_reducible refine ⟨_, st_Moment_now (by assumption) (by walk_at "at"), ?_⟩
  | with_reducible refine ⟨_, fld_Moment_position (by assumption) (by walk_at "at"), ?_⟩
  | with_reducible refine ⟨_, st_Moment_position (by assumption) (by walk_at "at"), ?_⟩
  | with_reducible refine ⟨_, fld_Moment_pace (by assumption) (by walk_at "at"), ?_⟩
  | with_reducible refine ⟨_, st_Moment_pace (by assumption) (by walk_at "at"), ?_⟩
  | with_reducible refine ⟨_, fld_Moment_span (by assumption) (by walk_at "at"), ?_⟩
  | with_reducible refine ⟨_, st_Moment_span (by assumption) (by walk_at "at"), ?_⟩
  | with_reducible refine ⟨rc_Moment (by walk_at "at"), ?_⟩
  | with_reducible refine ⟨_, fld_Timing_dwell (by assumption) (by walk_at "at"), ?_⟩
  | with_reducible refine ⟨_, st_Timing_dwell (by assumption) (by walk_at "at"), ?_⟩
  | with_reducible refine ⟨_, fld_Timing_most (by assumption) (by walk_at "at"), ?_⟩
  | with_reducible refine ⟨_, st_Timing_most (by assumption) (by walk_at "at"), ?_⟩
  | with_reducible refine ⟨_, fld_Timing_advance (by assumption) (by walk_at "at"), ?_⟩
  | with_reducible refine ⟨_, st_Timing_advance (by assumption) (by walk_at "at"), ?_⟩
  | with_reducible refine ⟨_, fld_Timing_fuel (by assumption) (by walk_at "at"), ?_⟩
  | with_reducible refine ⟨_, st_Timing_fuel (by assumption) (by walk_at "at"), ?_⟩
  | with_reducible refine ⟨rc_Timing (by walk_at "at"), ?_⟩
  | with_reducible refine ⟨_, fld_Engine_dwell (by assumption) (by walk_at "at"), ?_⟩
  | with_reducible refine ⟨_, st_Engine_dwell (by assumption) (by walk_at "at"), ?_⟩
  | with_reducible refine ⟨_, fld_Engine_most (by assumption) (by walk_at "at"), ?_⟩
  | with_reducible refine ⟨_, st_Engine_most (by assumption) (by walk_at "at"), ?_⟩
  | with_reducible refine ⟨_, fld_Engine_advances (by assumption) (by walk_at "at"), ?_⟩
  | with_reducible refine ⟨_, st_Engine_advances (by assumption) (by walk_at "at"), ?_⟩
  | with_reducible refine ⟨_, fld_Engine_fuels (by assumption) (by walk_at "at"), ?_⟩
  | with_reducible refine ⟨_, st_Engine_fuels (by assumption) (by walk_at "at"), ?_⟩
  | with_reducible refine ⟨_, fld_Engine_load_now (by assumption) (by walk_at "at"), ?_⟩
  | with_reducible refine ⟨_, st_Engine_load_now (by assumption) (by walk_at "at"), ?_⟩
  | with_reducible refine ⟨_, fld_Engine_crank (by assumption) (by walk_at "at"), ?_⟩
  | with_reducible refine ⟨_, st_Engine_crank (by assumption) (by walk_at "at"), ?_⟩
  | with_reducible refine ⟨_, fld_Engine_cylinders (by assumption) (by walk_at "at"), ?_⟩
  | with_reducible refine ⟨_, st_Engine_cylinders (by assumption) (by walk_at "at"), ?_⟩
  | with_reducible refine ⟨rc_Engine (by walk_at "at"), ?_⟩
  ))

section
variable {P : Program} {w : World} {K : PySem.W.Frag} {mg : Str → Option Value} {base : Heap} {A : Adr} {zz : Addr}

/-! ### the list of calls -/
/-- one call, as it stands in the list -/
inductive One : List Int → Call → Prop
  | start {x0 x1 : Int} {adv fuel : List Int} : 0 ≤ x0 → x0 < 2 ^ 32 → 0 ≤ x1 → x1 < 2 ^ 32 → adv.length = 256 → fuel.length = 256 → One (0 :: x0 :: x1 :: 256 :: (adv ++ 256 :: fuel)) [[0, x0, x1], adv, fuel]
  | tooth {x : Int} : 0 ≤ x → x < 2 ^ 64 → One [1, x] [[1, x]]
  | cam : One [2] [[2]]
  | load {x : Int} : 0 ≤ x → x < 2 ^ 32 → One [3, x] [[3, x]]
  | tick {x : Int} : 0 ≤ x → x < 2 ^ 64 → One [4, x] [[4, x]]
  | state : One [5] [[5]]
theorem head_one {p : Int} {r t : List Int} {c : Call} (h : Head p r c t) : ∃ fl, One fl c ∧ p :: r = fl ++ t := by
  cases h with
  | start a1 a2 a3 a4 a5 a6 _ _ => exact ⟨_, .start a1 a2 a3 a4 a5 a6, by simp⟩
  | tooth a1 a2 => exact ⟨_, .tooth a1 a2, rfl⟩
  | cam => exact ⟨_, .cam, rfl⟩
  | load a1 a2 => exact ⟨_, .load a1 a2, rfl⟩
  | tick a1 a2 => exact ⟨_, .tick a1 a2, rfl⟩
  | state => exact ⟨_, .state, rfl⟩
theorem at_ints {l : List Int} {j : Nat} {v z : Int} (h : l[j]? = some v) (e : z = (j : Int)) : atI (l.map V.int) z = some (V.int v) := at_of e (by rw [List.getElem?_map, h]; rfl)
theorem at_call {pre fl t : List Int} {j : Nat} {v z : Int} (h : fl[j]? = some v) (e : z = ((pre.length + j : Nat) : Int)) : atI ((pre ++ (fl ++ t)).map V.int) z = some (V.int v) := by
  refine at_ints ?_ e
  have l := (List.getElem?_eq_some_iff.mp h).1
  rw [List.getElem?_append_right (by omega), Nat.add_sub_cancel_left, List.getElem?_append_left l]
  exact h
theorem adv_at {x0 x1 : Int} {adv fuel : List Int} (h : adv.length = 256) : (0 :: x0 :: x1 :: 256 :: (adv ++ 256 :: fuel) : List Int)[260]? = some 256 := by
  show (adv ++ 256 :: fuel)[256]? = some 256
  rw [List.getElem?_append_right (by omega), h]
  rfl
theorem sIx_at (n d k : Nat) (h : k ≤ n) : HT.sIx n d (some (k : Int)) = k := by
  rw [HT.sIx_nat]
  omega
theorem cut_two {l : List Int} {i j : Nat} {m : List Int} (h : (l.drop i).take (j - i) = m) (h1 : i ≤ l.length) (h2 : j ≤ l.length) : cutV (l.map V.int) (some (i : Int)) (some (j : Int)) = m.map V.int := by
  unfold cutV
  rw [List.length_map, sIx_at _ _ _ h1, sIx_at _ _ _ h2, ← List.map_drop, ← List.map_take, h]
theorem cut_one {l : List Int} {i : Nat} {m : List Int} (h : l.drop i = m) (h1 : i ≤ l.length) : cutV (l.map V.int) (some (i : Int)) none = m.map V.int := by
  unfold cutV
  rw [List.length_map, sIx_at _ _ _ h1, HT.sIx_none, ← List.map_drop, ← List.map_take, h, ← h, List.take_of_length_le (by rw [List.length_drop]; exact Nat.le_refl _)]
def sp_call_length (K : PySem.W.Frag) (A : Adr) : Sp := fun vs H Q _ => ∃ (a : Addr) (pre fl t : List Int) (c : Call), vs = [.ref a, .int (pre.length : Nat)] ∧ SqL K H a ((pre ++ (fl ++ t)).map V.int) ∧ One fl c ∧ ∀ H' : Hp, Same H H' → Q (.int (fl.length : Nat)) H'
theorem ok_call_length (T : Txt K mg A) : FnOk P w K mg base CX0 1 A.f_call_length A.d_call_length ["calls", "place"] (sp_call_length K A) := by
  refine T.F_call_length.ok sc_call_length (fun vs H Q E h => ?_) (fun cdv A0 outer s H vs Q E hr h => ?_)
  · obtain ⟨a, pre, fl, t, c, rfl, _⟩ := h
    rfl
  obtain ⟨a, pre, fl, t, c, rfl, h⟩ := h
  refine ⟨_, (pss_cons (ps_if (pt_cmpR op_eq (pe_ix ix_list (pv 0) (pv 1) (fun _ _ => rfl)) (pgi T.g_START) (nomark _)) (pss_cons (ps_set (i := 2) sc_call_length.nd rfl (Or.inl rfl) (pe_op op_add (pe_op op_add (pv 1) pe_int) (pe_ix ix_list (pv 0) (pe_op op_add (pv 1) pe_int) (fun _ _ => rfl))))
      (pss_one (ps_ret (pe_op op_sub (pe_op op_add (pe_op op_add (pv 2) pe_int) (pe_ix ix_list (pv 0) (pv 2) (fun _ _ => rfl))) (pv 1))))) pss_nil)
      (pss_one (ps_ret (pe_ifExp (pt_cmpR op_in_seq (pe_ix ix_list (pv 0) (pv 1) (fun _ _ => rfl)) (pe_tup (pa_cons (pgi T.g_TOOTH) (pa_cons (pgi T.g_LOAD) (pa_cons (pgi T.g_TICK) pa_nil)))) rfl) pe_int pe_int)))), ?_⟩
  try dsimp only [cxK]
  obtain ⟨ha, o, k⟩ := h
  cases o with
  | start a1 a2 a3 a4 a5 a6 =>
    walk_at "rd"
    refine rd_ixL ha (at_call (j := 0) rfl (by omega)) ?_
    walk_at "rd"
    refine rd_ite (fun _ => ?_) (fun e => absurd e (by decide))
    walk_at "rd"
    refine rd_ixL ha (at_call (j := 3) rfl (by omega)) ?_
    walk_at "rd"
    refine rd_ixL ha (at_call (j := 260) (adv_at a5) (by omega)) ?_
    walk_at "rd"
    refine qi (k H (Same.refl H)) ?_
    simp only [List.length_cons, List.length_append, a5, a6]
    omega
  | tooth a1 a2 =>
    walk_at "rd"
    refine rd_ixL ha (at_call (j := 0) rfl (by omega)) ?_
    walk_at "rd"
    refine rd_ite (fun e => absurd e (by decide)) (fun _ => ?_)
    walk_at "rd"
    refine rd_ixL ha (at_call (j := 0) rfl (by omega)) ?_
    walk_at "rd"
    refine ⟨Nat.le_of_ble_eq_true rfl, fun q hq => ?_⟩
    walk_at "rd"
    refine ⟨q, _, rfl, .inr (SqT.of upd_same), rfl, rfl, _, rfl, ?_⟩
    refine rd_ite (fun _ => ?_) (fun e => absurd e (by decide))
    walk_at "rd"
    exact qi (k _ ((Same.refl H).n hq)) rfl
  | cam =>
    walk_at "rd"
    refine rd_ixL ha (at_call (j := 0) rfl (by omega)) ?_
    walk_at "rd"
    refine rd_ite (fun e => absurd e (by decide)) (fun _ => ?_)
    walk_at "rd"
    refine rd_ixL ha (at_call (j := 0) rfl (by omega)) ?_
    walk_at "rd"
    refine ⟨Nat.le_of_ble_eq_true rfl, fun q hq => ?_⟩
    walk_at "rd"
    refine ⟨q, _, rfl, .inr (SqT.of upd_same), rfl, rfl, _, rfl, ?_⟩
    refine rd_ite (fun e => absurd e (by decide)) (fun _ => ?_)
    walk_at "rd"
    exact qi (k _ ((Same.refl H).n hq)) rfl
  | load a1 a2 =>
    walk_at "rd"
    refine rd_ixL ha (at_call (j := 0) rfl (by omega)) ?_
    walk_at "rd"
    refine rd_ite (fun e => absurd e (by decide)) (fun _ => ?_)
    walk_at "rd"
    refine rd_ixL ha (at_call (j := 0) rfl (by omega)) ?_
    walk_at "rd"
    refine ⟨Nat.le_of_ble_eq_true rfl, fun q hq => ?_⟩
    walk_at "rd"
    refine ⟨q, _, rfl, .inr (SqT.of upd_same), rfl, rfl, _, rfl, ?_⟩
    refine rd_ite (fun _ => ?_) (fun e => absurd e (by decide))
    walk_at "rd"
    exact qi (k _ ((Same.refl H).n hq)) rfl
  | tick a1 a2 =>
    walk_at "rd"
    refine rd_ixL ha (at_call (j := 0) rfl (by omega)) ?_
    walk_at "rd"
    refine rd_ite (fun e => absurd e (by decide)) (fun _ => ?_)
    walk_at "rd"
    refine rd_ixL ha (at_call (j := 0) rfl (by omega)) ?_
    walk_at "rd"
    refine ⟨Nat.le_of_ble_eq_true rfl, fun q hq => ?_⟩
    walk_at "rd"
    refine ⟨q, _, rfl, .inr (SqT.of upd_same), rfl, rfl, _, rfl, ?_⟩
    refine rd_ite (fun _ => ?_) (fun e => absurd e (by decide))
    walk_at "rd"
    exact qi (k _ ((Same.refl H).n hq)) rfl
  | state =>
    walk_at "rd"
    refine rd_ixL ha (at_call (j := 0) rfl (by omega)) ?_
    walk_at "rd"
    refine rd_ite (fun e => absurd e (by decide)) (fun _ => ?_)
    walk_at "rd"
    refine rd_ixL ha (at_call (j := 0) rfl (by omega)) ?_
    walk_at "rd"
    refine ⟨Nat.le_of_ble_eq_true rfl, fun q hq => ?_⟩
    walk_at "rd"
    refine ⟨q, _, rfl, .inr (SqT.of upd_same), rfl, rfl, _, rfl, ?_⟩
    refine rd_ite (fun e => absurd e (by decide)) (fun _ => ?_)
    walk_at "rd"
    exact qi (k _ ((Same.refl H).n hq)) rfl
/-- the engine, ahead of its first start and behind it -/
def EngB (A : Adr) (zz : Addr) (b : Bool) (H : Hp) (ep : Addr) (s : Ks209.Abs) : Prop := (∃ (edx : Addr) (v0 v1 v2 v3 v4 v5 v6 : V), H ep = some (.ins A.aEngine edx (L_Engine v0 v1 v2 v3 v4 v5 v6))) ∧ (b = true → Eng A zz H ep s)
theorem Eng.b {b : Bool} {H : Hp} {ep : Addr} {s : Ks209.Abs} (E : Eng A zz H ep s) : EngB A zz b H ep s := by
  refine ⟨?_, fun _ => E⟩
  obtain ⟨edx, pa, pf, cp, lp, cdx, c, as, B⟩ := E
  exact ⟨_, _, _, _, _, _, _, _, B.e⟩
theorem EngB.same {b : Bool} {H H' : Hp} {ep : Addr} {s : Ks209.Abs} (E : EngB A zz b H ep s) (f : Same H H') : EngB A zz b H' ep s := by
  obtain ⟨⟨edx, v0, v1, v2, v3, v4, v5, v6, he⟩, e⟩ := E
  exact ⟨⟨edx, v0, v1, v2, v3, v4, v5, v6, f _ _ he⟩, fun h => (e h).same f⟩
def sp_answer_call (K : PySem.W.Frag) (A : Adr) : Sp := fun vs H Q _ => ∃ (zz ep cl : Addr) (fl : List Int) (c : Call) (b : Bool) (s : Ks209.Abs), vs = [.ref ep, .ref cl] ∧ H cl = some (.lst (fl.map V.int)) ∧ One fl c ∧ EngB A zz b H ep s ∧ (∃ o, H zz = some o) ∧ (b = true ∨ Ks209Neutral.num c 0 0 = 0) ∧
  ∀ (H' : Hp) (q : Addr), EngB A zz (b || (Ks209Neutral.num c 0 0 == 0 && (Ks209Neutral.step s c).2.headD (-1) == 0)) H' ep (Ks209Neutral.step s c).1 → H' q = some (.lst ((Ks209Neutral.step s c).2.map V.int)) → H q = none → Kp H H' → Q (.ref q) H'
theorem cut_adv {x0 x1 : Int} {adv fuel : List Int} (h : adv.length = 256) : cutV ((0 :: x0 :: x1 :: 256 :: (adv ++ 256 :: fuel)).map V.int) (some 4) (some (4 + 256)) = adv.map V.int := by
  refine cut_two (i := 4) (j := 260) ?_ ?_ ?_
  · show (adv ++ 256 :: fuel).take 256 = adv
    rw [List.take_append_of_le_length (by omega), List.take_of_length_le (by omega)]
  · simp
  · simp
    omega
theorem cut_fuel {x0 x1 : Int} {adv fuel : List Int} (h : adv.length = 256) : cutV ((0 :: x0 :: x1 :: 256 :: (adv ++ 256 :: fuel)).map V.int) (some (4 + 256 + 1)) none = fuel.map V.int := by
  refine cut_one (i := 261) ?_ ?_
  · show (adv ++ 256 :: fuel).drop 257 = fuel
    rw [List.drop_append, List.drop_of_length_le (by omega), h]
    rfl
  · simp
    omega
theorem ok_answer_call (T : Txt K mg A) : FnOk P w K mg base CX0 6 A.f_answer_call A.d_answer_call ["engine", "call"] (sp_answer_call K A) := by
  refine T.F_answer_call.ok sc_answer_call (fun vs H Q E h => ?_) (fun cdv A0 outer s H vs Q E hr h => ?_)
  · obtain ⟨zz, ep, cl, fl, c, b, s, rfl, _⟩ := h
    rfl
  obtain ⟨zz, ep, cl, fl, c, b, s, rfl, h⟩ := h
  refine ⟨_, (pss_cons (ps_if (pt_cmpR op_eq (pe_ix ix_list (pv 1) pe_int (fun _ _ => rfl)) (pgi T.g_START) (nomark _)) (pss_cons (ps_set (i := 2) sc_answer_call.nd rfl (Or.inl rfl) (pe_op op_add pe_int (pe_ix ix_list (pv 1) pe_int (fun _ _ => rfl))))
      (pss_one (ps_ret (pe_meth (pv 0) T.cls_Engine T.m_Engine_start.mt (ok_Engine_start T) (hr.mono (by decide)) T.m_Engine_start.bd .nil pass0 (pa_cons (pe_ix ix_list (pv 1) pe_int (fun _ _ => rfl)) (pa_cons (pe_ix ix_list (pv 1) pe_int (fun _ _ => rfl)) (pa_cons (pe_slice sl_list (pv 1) (po_some pe_int) (po_some (pv 2))) (pa_cons (pe_slice sl_list (pv 1) (po_some (pe_op op_add (pv 2) pe_int)) po_none) pa_nil)))))))) pss_nil)
      (pss_cons (ps_if (pt_cmpR op_eq (pe_ix ix_list (pv 1) pe_int (fun _ _ => rfl)) (pgi T.g_TOOTH) (nomark _)) (pss_one (ps_ret (pe_meth (pv 0) T.cls_Engine T.m_Engine_tooth.mt (ok_Engine_tooth T) (hr.mono (by decide)) T.m_Engine_tooth.bd .nil pass0 (pa_cons (pe_ix ix_list (pv 1) pe_int (fun _ _ => rfl)) pa_nil)))) pss_nil)
      (pss_cons (ps_if (pt_cmpR op_eq (pe_ix ix_list (pv 1) pe_int (fun _ _ => rfl)) (pgi T.g_CAM) (nomark _)) (pss_one (ps_ret (pe_meth0 (pv 0) T.cls_Engine T.m_Engine_cam.mt (ok_Engine_cam T) (hr.mono (by decide)) T.m_Engine_cam.bd .nil pass0))) pss_nil)
      (pss_cons (ps_if (pt_cmpR op_eq (pe_ix ix_list (pv 1) pe_int (fun _ _ => rfl)) (pgi T.g_LOAD) (nomark _)) (pss_one (ps_ret (pe_meth (pv 0) T.cls_Engine T.m_Engine_load.mt (ok_Engine_load T) (hr.mono (by decide)) T.m_Engine_load.bd .nil pass0 (pa_cons (pe_ix ix_list (pv 1) pe_int (fun _ _ => rfl)) pa_nil)))) pss_nil)
      (pss_cons (ps_if (pt_cmpR op_eq (pe_ix ix_list (pv 1) pe_int (fun _ _ => rfl)) (pgi T.g_TICK) (nomark _)) (pss_one (ps_ret (pe_meth (pv 0) T.cls_Engine T.m_Engine_tick.mt (ok_Engine_tick T) (hr.mono (by decide)) T.m_Engine_tick.bd .nil pass0 (pa_cons (pe_ix ix_list (pv 1) pe_int (fun _ _ => rfl)) pa_nil)))) pss_nil)
      (pss_cons (ps_if (pt_cmpR op_eq (pe_ix ix_list (pv 1) pe_int (fun _ _ => rfl)) (pgi T.g_STATE) (nomark _)) (pss_one (ps_ret (pe_meth0 (pv 0) T.cls_Engine T.m_Engine_state.mt (ok_Engine_state T) (hr.mono (by decide)) T.m_Engine_state.bd .nil pass0))) pss_nil)
      (pss_one ps_never))))))), ?_⟩
  try dsimp only [cxK]
  obtain ⟨hcl, o, EB, ⟨oz, hz⟩, hb, k⟩ := h
  have hS : SqL K H cl (fl.map V.int) := SqL.of hcl
  have EB0 := EB
  obtain ⟨⟨edx, v0, v1, v2, v3, v4, v5, v6, he⟩, EE⟩ := EB
  cases o with
  | @start x0 x1 adv fuel a1 a2 a3 a4 a5 a6 =>
    have k' : ∀ (H' : Hp) (q : Addr), EngB A zz (b || (ansOf s (.start ⟨x0.toNat, x1.toNat, adv, fuel⟩)).headD (-1) == 0) H' ep (nextOf s (.start ⟨x0.toNat, x1.toNat, adv, fuel⟩)) → H' q = some (.lst ((ansOf s (.start ⟨x0.toNat, x1.toNat, adv, fuel⟩)).map V.int)) → H q = none → Kp H H' → Q (.ref q) H' := k
    walk_at "rd"
    refine rd_ixL hS (at_ints (j := 0) rfl rfl) ?_
    walk_at "rd"
    refine rd_ite (fun _ => ?_) (fun e => absurd e (by decide))
    walk_at "rd"
    refine rd_ixL hS (at_ints (j := 3) rfl rfl) ?_
    walk_at "rd"
    refine rd_ixL hS (at_ints (j := 1) rfl rfl) ?_
    walk_at "rd"
    refine rd_ixL hS (at_ints (j := 2) rfl rfl) ?_
    walk_at "rd"
    refine rd_slL hS fun q1 hq1 => ?_
    rw [cut_adv a5]
    have s1 : Same H (upd H q1 (.lst (adv.map V.int))) := (Same.refl H).n hq1
    walk_at "rd"
    refine rd_slL (s1.seq hS) fun q2 hq2 => ?_
    rw [cut_fuel a5]
    have s2 : Same (upd H q1 (.lst (adv.map V.int))) (upd (upd H q1 (.lst (adv.map V.int))) q2 (.lst (fuel.map V.int))) := (Same.refl _).n hq2
    have s3 := s1.trans s2
    refine ⟨zz, ep, edx, v0, v1, v2, v3, v4, v5, v6, ⟨x0.toNat, x1.toNat, adv, fuel⟩, q1, q2, by rw [Int.toNat_of_nonneg a1, Int.toNat_of_nonneg a3], s3 _ _ he, s2 _ _ upd_same, upd_same, a5, a6, ⟨_, s3 _ _ hz⟩, fun q => ne_of_none hz hq1 q.symm, fun q => ne_of_none (s1 _ _ hz) hq2 q.symm, fun ok H' q E l n f => ?_, fun no q n => ?_⟩
    · rw [(start_yes ok).1, (start_yes ok).2] at k'
      exact k' H' q E.b l (s3.free n) (s3.kp.trans f)
    · rw [(start_no no).1, (start_no no).2] at k'
      have s4 : Same _ (upd (upd (upd H q1 (.lst (adv.map V.int))) q2 (.lst (fuel.map V.int))) q (.lst [.int (-22)])) := s3.n (s3.free n)
      have eb : (b || ([-22] : List Int).headD (-1) == 0) = b := by cases b <;> rfl
      rw [eb] at k'
      exact k' _ q (EB0.same s4) upd_same (s3.free n) s4.kp
  | @tooth x a1 a2 =>
    have bt : b = true := hb.resolve_right (fun q => absurd (show (1 : Nat) = 0 from q) (by decide))
    subst bt
    have E := EE rfl
    have k' : ∀ (H' : Hp) (q : Addr), EngB A zz true H' ep (nextOf s (.tooth x.toNat)) → H' q = some (.lst ((ansOf s (.tooth x.toNat)).map V.int)) → H q = none → Kp H H' → Q (.ref q) H' := k
    walk_at "rd"
    refine rd_ixL hS (at_ints (j := 0) rfl rfl) ?_
    walk_at "rd"
    refine rd_ite (fun e => absurd e (by decide)) (fun _ => ?_)
    walk_at "rd"
    refine rd_ixL hS (at_ints (j := 0) rfl rfl) ?_
    walk_at "rd"
    refine rd_ite (fun _ => ?_) (fun e => absurd e (by decide))
    walk_at "rd"
    refine rd_ixL hS (at_ints (j := 1) rfl rfl) ?_
    walk_at "rd"
    refine ⟨zz, ep, s, x.toNat, by rw [Int.toNat_of_nonneg a1], E, fun H' q E' l n f => k' H' q E'.b l n f⟩
  | cam =>
    have bt : b = true := hb.resolve_right (fun q => absurd (show (2 : Nat) = 0 from q) (by decide))
    subst bt
    have E := EE rfl
    have k' : ∀ (H' : Hp) (q : Addr), EngB A zz true H' ep (nextOf s (.cam)) → H' q = some (.lst ((ansOf s (.cam)).map V.int)) → H q = none → Kp H H' → Q (.ref q) H' := k
    walk_at "rd"
    refine rd_ixL hS (at_ints (j := 0) rfl rfl) ?_
    walk_at "rd"
    refine rd_ite (fun e => absurd e (by decide)) (fun _ => ?_)
    walk_at "rd"
    refine rd_ixL hS (at_ints (j := 0) rfl rfl) ?_
    walk_at "rd"
    refine rd_ite (fun e => absurd e (by decide)) (fun _ => ?_)
    walk_at "rd"
    refine rd_ixL hS (at_ints (j := 0) rfl rfl) ?_
    walk_at "rd"
    refine rd_ite (fun _ => ?_) (fun e => absurd e (by decide))
    walk_at "rd"
    refine ⟨zz, ep, s, rfl, E, fun H' q E' l n f => k' H' q E'.b l n f⟩
  | @load x a1 a2 =>
    have bt : b = true := hb.resolve_right (fun q => absurd (show (3 : Nat) = 0 from q) (by decide))
    subst bt
    have E := EE rfl
    have k' : ∀ (H' : Hp) (q : Addr), EngB A zz true H' ep (nextOf s (.load x.toNat)) → H' q = some (.lst ((ansOf s (.load x.toNat)).map V.int)) → H q = none → Kp H H' → Q (.ref q) H' := k
    walk_at "rd"
    refine rd_ixL hS (at_ints (j := 0) rfl rfl) ?_
    walk_at "rd"
    refine rd_ite (fun e => absurd e (by decide)) (fun _ => ?_)
    walk_at "rd"
    refine rd_ixL hS (at_ints (j := 0) rfl rfl) ?_
    walk_at "rd"
    refine rd_ite (fun e => absurd e (by decide)) (fun _ => ?_)
    walk_at "rd"
    refine rd_ixL hS (at_ints (j := 0) rfl rfl) ?_
    walk_at "rd"
    refine rd_ite (fun e => absurd e (by decide)) (fun _ => ?_)
    walk_at "rd"
    refine rd_ixL hS (at_ints (j := 0) rfl rfl) ?_
    walk_at "rd"
    refine rd_ite (fun _ => ?_) (fun e => absurd e (by decide))
    walk_at "rd"
    refine rd_ixL hS (at_ints (j := 1) rfl rfl) ?_
    walk_at "rd"
    refine ⟨zz, ep, s, x.toNat, by rw [Int.toNat_of_nonneg a1], E, fun H' q E' l n f => k' H' q E'.b l n f⟩
  | @tick x a1 a2 =>
    have bt : b = true := hb.resolve_right (fun q => absurd (show (4 : Nat) = 0 from q) (by decide))
    subst bt
    have E := EE rfl
    have k' : ∀ (H' : Hp) (q : Addr), EngB A zz true H' ep (nextOf s (.tick x.toNat)) → H' q = some (.lst ((ansOf s (.tick x.toNat)).map V.int)) → H q = none → Kp H H' → Q (.ref q) H' := k
    walk_at "rd"
    refine rd_ixL hS (at_ints (j := 0) rfl rfl) ?_
    walk_at "rd"
    refine rd_ite (fun e => absurd e (by decide)) (fun _ => ?_)
    walk_at "rd"
    refine rd_ixL hS (at_ints (j := 0) rfl rfl) ?_
    walk_at "rd"
    refine rd_ite (fun e => absurd e (by decide)) (fun _ => ?_)
    walk_at "rd"
    refine rd_ixL hS (at_ints (j := 0) rfl rfl) ?_
    walk_at "rd"
    refine rd_ite (fun e => absurd e (by decide)) (fun _ => ?_)
    walk_at "rd"
    refine rd_ixL hS (at_ints (j := 0) rfl rfl) ?_
    walk_at "rd"
    refine rd_ite (fun e => absurd e (by decide)) (fun _ => ?_)
    walk_at "rd"
    refine rd_ixL hS (at_ints (j := 0) rfl rfl) ?_
    walk_at "rd"
    refine rd_ite (fun _ => ?_) (fun e => absurd e (by decide))
    walk_at "rd"
    refine rd_ixL hS (at_ints (j := 1) rfl rfl) ?_
    walk_at "rd"
    refine ⟨zz, ep, s, x.toNat, by rw [Int.toNat_of_nonneg a1], E, fun H' q E' l n f => k' H' q E'.b l n f⟩
  | state =>
    have bt : b = true := hb.resolve_right (fun q => absurd (show (5 : Nat) = 0 from q) (by decide))
    subst bt
    have E := EE rfl
    have k' : ∀ (H' : Hp) (q : Addr), EngB A zz true H' ep (nextOf s (.state)) → H' q = some (.lst ((ansOf s (.state)).map V.int)) → H q = none → Kp H H' → Q (.ref q) H' := k
    walk_at "rd"
    refine rd_ixL hS (at_ints (j := 0) rfl rfl) ?_
    walk_at "rd"
    refine rd_ite (fun e => absurd e (by decide)) (fun _ => ?_)
    walk_at "rd"
    refine rd_ixL hS (at_ints (j := 0) rfl rfl) ?_
    walk_at "rd"
    refine rd_ite (fun e => absurd e (by decide)) (fun _ => ?_)
    walk_at "rd"
    refine rd_ixL hS (at_ints (j := 0) rfl rfl) ?_
    walk_at "rd"
    refine rd_ite (fun e => absurd e (by decide)) (fun _ => ?_)
    walk_at "rd"
    refine rd_ixL hS (at_ints (j := 0) rfl rfl) ?_
    walk_at "rd"
    refine rd_ite (fun e => absurd e (by decide)) (fun _ => ?_)
    walk_at "rd"
    refine rd_ixL hS (at_ints (j := 0) rfl rfl) ?_
    walk_at "rd"
    refine rd_ite (fun e => absurd e (by decide)) (fun _ => ?_)
    walk_at "rd"
    refine rd_ixL hS (at_ints (j := 0) rfl rfl) ?_
    walk_at "rd"
    refine rd_ite (fun _ => ?_) (fun e => absurd e (by decide))
    walk_at "rd"
    refine ⟨zz, ep, s, rfl, E, fun H' q E' l n f => k' H' q E'.b l n f⟩
end
end Et

set_option Elab.async false
set_option linter.all false
set_option maxRecDepth 100000
set_option maxHeartbeats 4000000
namespace Et
open PySem PySem.Spec PyProof.Rows L2
open PySem.W (Codec)
local macro_rules | `(tactic| walk_at "at") => `(tactic| first | assumption | exact upd_same | (refine (upd_ne (by assumption)).trans ?_; walk_at "at"))
local macro_rules | `(tactic| walk_at "rd") => `(tactic| repeat (first
  | with_reducible refine rd_seq ?_
  | with_reducible refine rd_ret ?_
  | with_reducible refine rd_retN ?_
  | with_reducible refine rd_drop ?_
  | with_reducible refine rd_asg ?_
  | with_reducible refine rd_name ?_
  | with_reducible refine rd_next ?_
  | with_reducible refine rd_if ?_
  | with_reducible refine rd_test ?_
  | with_reducible refine rd_tB ?_
  | with_reducible refine rd_and ?_
  | with_reducible refine rd_or ?_
  | with_reducible refine rd_not ?_
  | with_reducible refine rd_andV ?_
  | with_reducible refine rd_orV ?_
  | with_reducible refine rd_notV ?_
  | with_reducible refine rd_ifE ?_
  | with_reducible refine rd_op ?_
  | with_reducible refine rd_chain ?_
  | with_reducible refine rd_C ?_
  | ((with_reducible refine rd_varE ?_); refine ⟨_, rfl, ?_⟩)
  | with_reducible refine rd_rI0 ?_
  | with_reducible refine rd_eqI ?_
  | with_reducible refine rd_neI ?_
  | with_reducible refine rd_get ?_
  | with_reducible refine rd_put ?_
  | with_reducible refine rd_met ?_
  | with_reducible refine rd_cal ?_
  | with_reducible refine rd_mak ?_
  | with_reducible refine rd_cb ?_
  | with_reducible refine rd_nil ?_
  | with_reducible refine rd_cons ?_
  | with_reducible refine rd_lst ?_
  | with_reducible refine rd_tup ?_
  | with_reducible refine rd_sl ?_
  | with_reducible refine rd_part ?_
  | with_reducible refine rd_nopart ?_
  | with_reducible refine rd_bm ?_
  | with_reducible refine rd_bl ?_
  | with_reducible refine rd_blV ?_
  | with_reducible refine rd_intV ?_
  | with_reducible refine iteT ?_
  | with_reducible refine iteF ?_
  | with_reducible refine rd_itNT ?_
  | with_reducible refine rd_itNF ?_
  | with_reducible refine rd_for ?_
  | with_reducible refine rd_lcL ?_
  | with_reducible refine rd_lcR ?_
  | with_reducible refine rd_yes ?_
  | with_reducible refine rd_listT (SqL.of (by walk_at "at")) ?_
  | with_reducible refine rd_isNn ?_
  | with_reducible refine rd_isNi ?_
  | with_reducible refine rd_notNn ?_
  | with_reducible refine rd_notNi ?_
  | with_reducible refine rd_eqNi ?_
  | with_reducible refine rd_max2 ?_
  | with_reducible refine rd_min2 ?_
  | with_reducible refine rd_mulL (by decide) ?_
  | with_reducible refine rd_div (by decide) ?_
  | with_reducible refine rd_mod (by decide) ?_
  | with_reducible refine ⟨_, fld_Crank_last_time (by assumption) (by walk_at "at"), ?_⟩
  | with_reducible refine ⟨_, st_Crank_last_time (by assumption) (by walk_at "at"), ?_⟩
  | with_reducible refine ⟨_, fld_Crank_interval (by assumption) (by walk_at "at"), ?_⟩
  | with_reducible refine ⟨_, st_Crank_interval (by assumption) (by walk_at "at"), ?_⟩
  | with_reducible refine ⟨_, fld_Crank_certainty (by assumption) (by walk_at "at"), ?_⟩
  | with_reducible refine ⟨_, st_Crank_certainty (by assumption) (by walk_at "at"), ?_⟩
  | with_reducible refine ⟨_, fld_Crank_place (by assumption) (by walk_at "at"), ?_⟩
  | with_reducible refine ⟨_, st_Crank_place (by assumption) (by walk_at "at"), ?_⟩
  | with_reducible refine ⟨_, fld_Crank_turn (by assumption) (by walk_at "at"), ?_⟩
  | with_reducible refine ⟨_, st_Crank_turn (by assumption) (by walk_at "at"), ?_⟩
  | with_reducible refine ⟨_, fld_Crank_cam_told (by assumption) (by walk_at "at"), ?_⟩
  | with_reducible refine ⟨_, st_Crank_cam_told (by assumption) (by walk_at "at"), ?_⟩
  | with_reducible refine ⟨rc_Crank (by walk_at "at"), ?_⟩
  | with_reducible refine ⟨_, fld_Cylinder_number (by assumption) (by walk_at "at"), ?_⟩
  | with_reducible refine ⟨_, st_Cylinder_number (by assumption) (by walk_at "at"), ?_⟩
  | with_reducible refine ⟨_, fld_Cylinder_phase (by assumption) (by walk_at "at"), ?_⟩
  | with_reducible refine ⟨_, st_Cylinder_phase (by assumption) (by walk_at "at"), ?_⟩
  | with_reducible refine ⟨_, fld_Cylinder_went_on (by assumption) (by walk_at "at"), ?_⟩
  | with_reducible refine ⟨_, st_Cylinder_went_on (by assumption) (by walk_at "at"), ?_⟩
  | with_reducible refine ⟨_, fld_Cylinder_off (by assumption) (by walk_at "at"), ?_⟩
  | with_reducible refine ⟨_, st_Cylinder_off (by assumption) (by walk_at "at"), ?_⟩
  | with_reducible refine ⟨rc_Cylinder (by walk_at "at"), ?_⟩
  | with_reducible refine ⟨_, fld_Moment_now (by assumption) (by walk_at "at"), ?_⟩
  | with_reducible refine ⟨_, st_Moment_now (by assumption) (by walk_at "at"), ?_⟩
  | with_reducible refine ⟨_, fld_Moment_position (by assumption) (by walk_at "at"), ?_⟩
  | with_reducible refine ⟨_, st_Moment_position (by assumption) (by walk_at "at"), ?_⟩
  | with_reducible refine ⟨_, fld_Moment_pace (by assumption) (by walk_at "at"), ?_⟩
  | with_reducible refine ⟨_, st_Moment_pace (by assumption) (by walk_at "at"), ?_⟩
  | with_reducible refine ⟨_, fld_Moment_span (by assumption) (by walk_at "at"), ?_⟩
  | with_reducible refine ⟨_, st_Moment_span (by assumption) (by walk_at "at"), ?_⟩
  | with_reducible refine ⟨rc_Moment (by walk_at "at"), ?_⟩
  | with_reducible refine ⟨_, fld_Timing_dwell (by assumption) (by walk_at "at"), ?_⟩
  | with_reducible refine ⟨_, st_Timing_dwell (by assumption) (by walk_at "at"), ?_⟩
  | with_reducible refine ⟨_, fld_Timing_most (by assumption) (by walk_at "at"), ?_⟩
  | with_reducible refine ⟨_, st_Timing_most (by assumption) (by walk_at "at"), ?_⟩
  | with_reducible refine ⟨_, fld_Timing_advance (by assumption) (by walk_at "at"), ?_⟩
  | with_reducible refine ⟨_, st_Timing_advance (by assumption) (by walk_at "at"), ?_⟩
  | with_reducible refine ⟨_, fld_Timing_fuel (by assumption) (by walk_at "at"), ?_⟩
  | with_reducible refine ⟨_, st_Timing_fuel (by assumption) (by walk_at "at"), ?_⟩
  | with_reducible refine ⟨rc_Timing (by walk_at "at"), ?_⟩
  | with_reducible refine ⟨_, fld_Engine_dwell (by assumption) (by walk_at "at"), ?_⟩
  | with_reducible refine ⟨_, st_Engine_dwell (by assumption) (by walk_at "at"), ?_⟩
  | with_reducible refine ⟨_, fld_Engine_most (by assumption) (by walk_at "at"), ?_⟩
  | with_reducible refine ⟨_, st_Engine_most (by assumption) (by walk_at "at"), ?_⟩
  | with_reducible refine ⟨_, fld_Engine_advances (by assumption) (by walk_at "at"), ?_⟩
  | with_reducible refine ⟨_, st_Engine_advances (by assumption) (by walk_at "at"), ?_⟩
  | with_reducible refine ⟨_, fld_Engine_fuels (by assumption) (by walk_at "at"), ?_⟩
  | with_reducible refine ⟨_, st_Engine_fuels (by assumption) (by walk_at "at"), ?_⟩
  | with_reducible refine ⟨_, fld_Engine_load_now (by assumption) (by walk_at "at"), ?_⟩
  | with_reducible refine ⟨_, st_Engine_load_now (by assumption) (by walk_at "at"), ?_⟩
  | with_reducible refine ⟨_, fld_Engine_crank (by assumption) (by walk_at "at"), ?_⟩
  | with_reducible refine ⟨_, st_Engine_crank (by assumption) (by walk_at "at"), ?_⟩
  | with_reducible refine ⟨_, fld_Engine_cylinders (by assumption) (by walk_at "at"), ?_⟩
  | with_reducible refine ⟨_, st_Engine_cylinders (by assumption) (by walk_at "at"), ?_⟩
  | with_reducible refine ⟨rc_Engine (by walk_at "at"), ?_⟩
  ))

section
variable {P : Program} {w : World} {K : PySem.W.Frag} {mg : Str → Option Value} {base : Heap} {A : Adr} {zz : Addr}

/-! ### answers -/
def sp_answers0 (K : PySem.W.Frag) : Sp := fun vs H Q _ => ∃ (a : Addr) (ns : List Int), vs = [.ref a] ∧ SqL K H a (ns.map V.int) ∧ PyKs209.answers_asked ns = true ∧ ∀ (H' : Hp) (p : Addr), H' p = some (.lst ((PyKs209.answers ns).map V.int)) → Q (.ref p) H'
def sp_answers (K : PySem.W.Frag) (A : Adr) : Sp := sp_answers0 K
/-- how far the loop is -/
def left (n : Nat) (σ : L2.St) : Nat := match σ[3]? with
  | some (some (V.int i)) => n - i.toNat
  | _ => 0
/-- the heap without q -/
def rem (q : Addr) (H : Hp) : Hp := fun b => if b = q then none else H b
theorem rem_upd {q : Addr} {H : Hp} {o : HO} : rem q (upd H q o) = rem q H := by
  funext b
  unfold rem upd
  split <;> rfl
theorem rem_none {q : Addr} {H : Hp} (h : H q = none) : rem q H = H := by
  funext b
  unfold rem
  split
  · next e => rw [e, h]
  · rfl
theorem rem_same {q : Addr} {H : Hp} : Same (rem q H) H := fun b o h => by
  unfold rem at h
  split at h
  · cases h
  · exact h
theorem Kp.rem {q : Addr} {H H' : Hp} (f : Kp H H') : Kp (rem q H) (rem q H') := fun b o h => by
  have n : b ≠ q := fun e => by
    unfold Et.rem at h
    rw [if_pos e] at h
    cases h
  obtain ⟨o', h', e⟩ := f b o (rem_same b o h)
  exact ⟨o', by unfold Et.rem; rw [if_neg n]; exact h', e⟩
structure Loop (K : PySem.W.Frag) (A : Adr) (a ep q : Addr) (ns total : List Int) (σ : L2.St) (H : Hp) (pre rest out : List Int) (cs : List Call) (f : Nat) (b : Bool) (s : Ks209.Abs) (v4 v5 : Option V) : Prop where
  st : σ = [some (.ref a), some (.ref ep), some (.ref q), some (.int (pre.length : Nat)), v4, v5]
  eN : ns = pre ++ rest
  eC : PyFlat.calls PyKs209.shape f rest = some cs
  eA : Ks209Neutral.askedFrom b s cs = true
  eO : out ++ PyFlat.told (PyFlat.played Ks209Neutral.step s cs) = total
  eng : EngB A q b H ep s
  eL : H q = some (.lst (out.map V.int))
  eS : SqL K (rem q H) a (ns.map V.int)
theorem told_cons (x : List Int) (l : List (List Int)) : PyFlat.told (x :: l) = (x.length : Int) :: (x ++ PyFlat.told l) := by
  unfold PyFlat.told
  rw [List.flatMap_cons]
  rfl
theorem EngB.lst {b : Bool} {H : Hp} {ep : Addr} {s : Ks209.Abs} {xs ys : List V} (E : EngB A zz b H ep s) (h : H zz = some (.lst xs)) : EngB A zz b (upd H zz (.lst ys)) ep s := by
  obtain ⟨⟨edx, v0, v1, v2, v3, v4, v5, v6, he⟩, e⟩ := E
  refine ⟨⟨edx, v0, v1, v2, v3, v4, v5, v6, (upd_ne (ne_of he h (Ne.symm lst_ne))).trans he⟩, fun q => ?_⟩
  obtain ⟨edx, pa, pf, cp, lp, cdx, c, as, B⟩ := e q
  refine ⟨edx, pa, pf, cp, lp, cdx, c, as, (upd_ne (ne_of B.e h (Ne.symm lst_ne))).trans B.e, (upd_ne B.zn.1).trans B.a, (upd_ne B.zn.2.1).trans B.f, (upd_ne (ne_of B.k h (Ne.symm lst_ne))).trans B.k, B.r, (upd_ne B.zn.2.2).trans B.l, B.y.keep fun a m o w => ?_, B.n, B.ld, B.ok, B.la, B.lf, B.zn⟩
  have na : a ≠ zz := by
    obtain ⟨j, hj⟩ := List.getElem?_of_mem m
    obtain ⟨z, dz, _, e⟩ := B.y.get hj
    exact ne_of e h (Ne.symm lst_ne)
  rw [upd_ne na]
  exact w
theorem left_at {n : Nat} {v0 v1 v2 : Option V} {i : Nat} {r : List (Option V)} : left n (v0 :: v1 :: v2 :: some (V.int (i : Nat)) :: r) = n - i := rfl
theorem ok_answers (T : Txt K mg A) : FnOk P w K mg base CX0 7 A.f_answers A.d_answers ["calls"] (sp_answers K A) := by
  refine T.F_answers.ok sc_answers (fun vs H Q E h => ?_) (fun cdv A0 outer s H vs Q E hr h => ?_)
  · obtain ⟨a, ns, rfl, _⟩ := h
    rfl
  obtain ⟨a, ns, rfl, h⟩ := h
  refine ⟨_, (pss_cons (ps_set (i := 1) sc_answers.nd rfl (Or.inl rfl) (pe_make0 T.mk_Engine (ok_Engine___init__ T) (hr.mono (by decide)) rfl T.c_Engine T.m_Engine___init__.bd .nil pass0))
      (pss_cons (ps_set (i := 2) sc_answers.nd rfl (Or.inl rfl) (pe_lst pa_nil))
      (pss_cons (ps_set (i := 3) sc_answers.nd rfl (Or.inl rfl) pe_int)
      (pss_cons (ps_while PassesOwn.never (pt_cmpR op_lt (pv 3) (pe_callB callR_len (by rfl) T.n_len PySem.boot_len (pa_cons (pv 0) pa_nil)) (nomark _))
      (pss_cons (ps_set (i := 4) sc_answers.nd rfl (Or.inl rfl) (pe_op op_add (pv 3) (pe_call (ok_call_length T) (hr.mono (by decide)) rfl T.f_call_length T.k_call_length T.b_call_length .nil pass0 (pa_cons (pv 0) (pa_cons (pv 3) pa_nil)))))
      (pss_cons (ps_set (i := 5) sc_answers.nd rfl (Or.inl rfl) (pe_call (ok_answer_call T) (hr.mono (by decide)) rfl T.f_answer_call T.k_answer_call T.b_answer_call .nil pass0 (pa_cons (pv 1) (pa_cons (pe_slice sl_list (pv 0) (po_some (pv 3)) (po_some (pv 4))) pa_nil))))
      (pss_cons (ps_expr (pe_bm PySem.F.plainAttrs_list PySem.F.slot_list_append PySem.F.type_list_append mt_append (pv 2) (pa_cons (pe_callB callR_len (by rfl) T.n_len PySem.boot_len (pa_cons (pv 5) pa_nil)) pa_nil)))
      (pss_cons (ps_expr (pe_bm PySem.F.plainAttrs_list PySem.F.slot_list_extend PySem.F.type_list_extend mt_extend (pv 2) (pa_cons (pv 5) pa_nil)))
      (pss_one (ps_set (i := 3) sc_answers.nd rfl (Or.inl rfl) (pv 4))))))))
      (pss_one (ps_ret (pv 2))))))), ?_⟩
  try dsimp only [cxK]
  obtain ⟨ha, hask, k⟩ := h
  obtain ⟨cs0, hc0, hk0, hl0⟩ := asked_len hask
  rw [answers_eq hc0] at k
  generalize ht : PyFlat.told (PyFlat.played Ks209Neutral.step Ks209Neutral.start cs0) = total at k hl0
  walk_at "rd"
  intro ep edx hx hdx ne
  refine ⟨ep, edx, rfl, upd_same, fun H1 v0 v1 v2 v3 v4 v5 v6 e1 f1 => ⟨rfl, ?_⟩⟩
  have s1 : Same H H1 := Same.made hx hdx f1
  walk_at "rd"
  refine ⟨Nat.zero_le _, fun q hq => ?_⟩
  have s2 : Same H1 (upd H1 q (.lst [])) := (Same.refl H1).n hq
  walk_at "rd"
  refine while_by (fun σ H' => ∃ pre rest out cs f b s v4 v5, Loop K A a ep q ns total σ H' pre rest out cs f b s v4 v5) (fun σ _ => left ns.length σ) ?_ ?_ ?_
  · exact ⟨[], ns, [], cs0, ns.length, false, Ks209Neutral.start, none, none, rfl, rfl, hc0, hk0, ht, ⟨⟨edx, v0, v1, v2, v3, v4, v5, v6, s2 _ _ e1⟩, fun h => by cases h⟩, upd_same, by rw [rem_upd, rem_none hq]; exact s1.seq ha⟩
  · rintro σ H' ⟨pre, rest, out, cs, f, b, s', v4, v5, L⟩
    obtain rfl := L.st
    have hS : SqL K H' a (ns.map V.int) := rem_same.seq L.eS
    have nsl := congrArg List.length L.eN
    rw [List.length_append] at nsl
    walk_at "rd"
    refine rd_len hS ?_
    walk_at "rd"
    rw [List.length_map]
    refine rd_ite (fun e => ?_) (fun e => ?_)
    · have e := of_decide_eq_true e
      cases rest with
      | nil =>
        simp only [List.length_nil] at nsl
        omega
      | cons p r =>
        obtain ⟨c, t, cs', f', rfl, hc, hcs⟩ := calls_step L.eC
        obtain ⟨fo, bo, ao⟩ := asked_step L.eA
        obtain ⟨fl, o, efl⟩ := head_one (call_head hc fo)
        have ens : ns = pre ++ (fl ++ t) := by
          rw [L.eN, efl]
        have lfl := congrArg List.length efl
        rw [List.length_append, List.length_cons] at lfl
        rw [List.length_cons] at nsl
        have pos : 0 < fl.length := by
          cases o <;> exact Nat.succ_pos _
        walk_at "rd"
        refine ⟨a, pre, fl, t, c, rfl, by rw [← ens]; exact hS, o, fun H1 g1 => ?_⟩
        walk_at "rd"
        refine rd_slL (g1.seq hS) fun l hl => ?_
        have cut : cutV (ns.map V.int) (some ((pre.length : Nat) : Int)) (some (((pre.length : Nat) : Int) + ((fl.length : Nat) : Int))) = fl.map V.int := by
          rw [← Int.natCast_add]
          refine cut_two ?_ (by omega) (by omega)
          rw [ens, List.drop_append_of_le_length (Nat.le_refl _), List.drop_of_length_le (Nat.le_refl _), List.nil_append, Nat.add_sub_cancel_left, List.take_append_of_le_length (Nat.le_refl _), List.take_of_length_le (Nat.le_refl _)]
        rw [cut]
        have g2 : Same H1 (upd H1 l (.lst (fl.map V.int))) := (Same.refl H1).n hl
        have g12 := g1.trans g2
        walk_at "rd"
        refine ⟨q, ep, l, fl, c, b, s', rfl, upd_same, o, L.eng.same g12, ⟨_, g12 _ _ L.eL⟩, bo, fun H3 w EB hw nw kp => ?_⟩
        have lq : H3 q = some (.lst (out.map V.int)) := kp.lst (g12 _ _ L.eL)
        have nqr : q ≠ w := ne_of_none (g12 _ _ L.eL) nw
        have hout := L.eO
        rw [PyFlat.played, told_cons] at hout
        have tl := congrArg List.length hout
        rw [List.length_append, List.length_cons, List.length_append] at tl
        walk_at "rd"
        refine rd_len (SqL.of hw) ?_
        walk_at "rd"
        refine rd_app lq (by rw [List.length_map, line_is]; omega) ?_
        walk_at "rd"
        refine rd_ext upd_same ((upd_ne (Ne.symm nqr)).trans hw) (by rw [List.length_append, List.length_map, List.length_map, line_is]; show out.length + 1 + _ ≤ _; omega) ?_
        walk_at "rd"
        have el : ((pre.length : Nat) : Int) + ((fl.length : Nat) : Int) = (((pre ++ fl).length : Nat) : Int) := by
          rw [List.length_append, Int.natCast_add]
        rw [el, upd_upd, List.length_map]
        refine ⟨⟨pre ++ fl, t, out ++ (((Ks209Neutral.step s' c).2.length : Nat) : Int) :: (Ks209Neutral.step s' c).2, cs', f', _, _, _, _, rfl, ?_, hcs, ao, ?_, EB.lst lq, ?_, ?_⟩, ?_⟩
        · rw [ens, List.append_assoc]
        · rw [List.append_assoc]
          exact hout
        · rw [upd_same, List.map_append, List.map_cons, List.append_assoc]
          rfl
        · rw [rem_upd]
          exact (g12.kp.trans kp).rem.seq L.eS
        · show ns.length - (pre ++ fl).length < ns.length - pre.length
          rw [List.length_append]
          omega
    · have e := of_decide_eq_false e
      have er : rest = [] := by
        cases rest with
        | nil => rfl
        | cons p r =>
          rw [List.length_cons] at nsl
          omega
      subst er
      have ec : cs = [] := by
        have := L.eC
        cases f <;> (unfold PyFlat.calls at this; exact (Option.some.inj this).symm)
      subst ec
      have eo : out = total := by
        have := L.eO
        rw [← this]
        exact (List.append_nil out).symm
      walk_at "rd"
      exact k _ q (eo ▸ L.eL)
  · rintro σ H' R R' hq ⟨x, h1, y, h2, p, ys, h3, h4, i, j, h5, h6, b, h7, h8⟩
    exact ⟨x, h1, y, h2, p, ys, h3, h4, i, j, h5, h6, b, h7, hq _ _ h8⟩
end
end Et

set_option Elab.async false
set_option linter.all false
set_option maxRecDepth 100000
set_option maxHeartbeats 4000000
namespace Et
open PySem PySem.Spec PyProof.Rows L2
open PySem.W (Codec)
/-! ### what the top has written, and the row's head -/
theorem all_mk {P : Program} {w : World} {K : PySem.W.Frag} {h : Heap} {mg : Str → Option Value} {fa : Addr} (X : K.In h) (G : h.Ns mainGlobals mg) (hfa : mg "answers" = some (.ref fa))
    {t_LONGEST_INTERVAL : Tok}
    {t_LAST_TOOTH : Tok}
    {t_UNKNOWN : Tok}
    {t_PERHAPS : Tok}
    {t_SURELY : Tok}
    {t_COIL_ON : Tok}
    {t_SPARK : Tok}
    {t_SOFT_OFF : Tok}
    {t_VALVE_OPENS : Tok}
    {t_VALVE_CLOSES : Tok}
    {t_IDLE : Tok}
    {t_ON : Tok}
    {t_DONE : Tok}
    {t_QUARTER : Tok}
    {t_HALF : Tok}
    {t_SPARK_BASE : Tok}
    {t_VALVE_BASE : Tok}
    {t_PLACES : Tok}
    {t_PLACE : Tok}
    {t_CYCLE : Tok}
    {t_SPEED_OF_ONE : Tok}
    {t_TOP_SPEED : Tok}
    {t_SIDE : Tok}
    {t_STEP : Tok}
    {t_LAST : Tok}
    {t_REFUSED : Tok}
    {t_CYLINDERS : Tok}
    {t_LONGEST_MOST : Tok}
    {t_MOST_ADVANCE : Tok}
    {t_MOST_LOAD : Tok}
    {t_TIMES_END : Tok}
    {t_TOOTH_NOT_KNOWN : Tok}
    {t_TURN_NOT_KNOWN : Tok}
    {t_START : Tok}
    {t_TOOTH : Tok}
    {t_CAM : Tok}
    {t_LOAD : Tok}
    {t_TICK : Tok}
    {t_STATE : Tok}
    {aCrank : Addr}
    {aCylinder : Addr}
    {aMoment : Addr}
    {aTiming : Addr}
    {aEngine : Addr}
    {f_0 : Addr} {oc_0 kV_0 dc_0 pm_0 cd_0 ct_0 : Value} {od_0 an_0 : Option Addr} {sl_0 : Array (Option Value)}
    {f_1 : Addr} {oc_1 kV_1 dc_1 pm_1 cd_1 ct_1 : Value} {od_1 an_1 : Option Addr} {sl_1 : Array (Option Value)}
    {f_2 : Addr} {oc_2 kV_2 dc_2 pm_2 cd_2 ct_2 : Value} {od_2 an_2 : Option Addr} {sl_2 : Array (Option Value)}
    {f_3 : Addr} {oc_3 kV_3 dc_3 pm_3 cd_3 ct_3 : Value} {od_3 an_3 : Option Addr} {sl_3 : Array (Option Value)}
    {f_4 : Addr} {oc_4 kV_4 dc_4 pm_4 cd_4 ct_4 : Value} {od_4 an_4 : Option Addr} {sl_4 : Array (Option Value)}
    {f_5 : Addr} {oc_5 kV_5 dc_5 pm_5 cd_5 ct_5 : Value} {od_5 an_5 : Option Addr} {sl_5 : Array (Option Value)}
    {f_6 : Addr} {oc_6 kV_6 dc_6 pm_6 cd_6 ct_6 : Value} {od_6 an_6 : Option Addr} {sl_6 : Array (Option Value)}
    {f_7 : Addr} {oc_7 kV_7 dc_7 pm_7 cd_7 ct_7 : Value} {od_7 an_7 : Option Addr} {sl_7 : Array (Option Value)}
    {f_8 : Addr} {oc_8 kV_8 dc_8 pm_8 cd_8 ct_8 : Value} {od_8 an_8 : Option Addr} {sl_8 : Array (Option Value)}
    {f_9 : Addr} {oc_9 kV_9 dc_9 pm_9 cd_9 ct_9 : Value} {od_9 an_9 : Option Addr} {sl_9 : Array (Option Value)}
    {f_10 : Addr} {oc_10 kV_10 dc_10 pm_10 cd_10 ct_10 : Value} {od_10 an_10 : Option Addr} {sl_10 : Array (Option Value)}
    {f_11 : Addr} {oc_11 kV_11 dc_11 pm_11 cd_11 ct_11 : Value} {od_11 an_11 : Option Addr} {sl_11 : Array (Option Value)}
    {f_12 : Addr} {oc_12 kV_12 dc_12 pm_12 cd_12 ct_12 : Value} {od_12 an_12 : Option Addr} {sl_12 : Array (Option Value)}
    {f_13 : Addr} {oc_13 kV_13 dc_13 pm_13 cd_13 ct_13 : Value} {od_13 an_13 : Option Addr} {sl_13 : Array (Option Value)}
    {f_14 : Addr} {oc_14 kV_14 dc_14 pm_14 cd_14 ct_14 : Value} {od_14 an_14 : Option Addr} {sl_14 : Array (Option Value)}
    {f_15 : Addr} {oc_15 kV_15 dc_15 pm_15 cd_15 ct_15 : Value} {od_15 an_15 : Option Addr} {sl_15 : Array (Option Value)}
    {f_16 : Addr} {oc_16 kV_16 dc_16 pm_16 cd_16 ct_16 : Value} {od_16 an_16 : Option Addr} {sl_16 : Array (Option Value)}
    {f_17 : Addr} {oc_17 kV_17 dc_17 pm_17 cd_17 ct_17 : Value} {od_17 an_17 : Option Addr} {sl_17 : Array (Option Value)}
    {f_18 : Addr} {oc_18 kV_18 dc_18 pm_18 cd_18 ct_18 : Value} {od_18 an_18 : Option Addr} {sl_18 : Array (Option Value)}
    {f_19 : Addr} {oc_19 kV_19 dc_19 pm_19 cd_19 ct_19 : Value} {od_19 an_19 : Option Addr} {sl_19 : Array (Option Value)}
    {f_20 : Addr} {oc_20 kV_20 dc_20 pm_20 cd_20 ct_20 : Value} {od_20 an_20 : Option Addr} {sl_20 : Array (Option Value)}
    {f_21 : Addr} {oc_21 kV_21 dc_21 pm_21 cd_21 ct_21 : Value} {od_21 an_21 : Option Addr} {sl_21 : Array (Option Value)}
    {f_22 : Addr} {oc_22 kV_22 dc_22 pm_22 cd_22 ct_22 : Value} {od_22 an_22 : Option Addr} {sl_22 : Array (Option Value)}
    {f_23 : Addr} {oc_23 kV_23 dc_23 pm_23 cd_23 ct_23 : Value} {od_23 an_23 : Option Addr} {sl_23 : Array (Option Value)}
    {f_24 : Addr} {oc_24 kV_24 dc_24 pm_24 cd_24 ct_24 : Value} {od_24 an_24 : Option Addr} {sl_24 : Array (Option Value)}
    {f_25 : Addr} {oc_25 kV_25 dc_25 pm_25 cd_25 ct_25 : Value} {od_25 an_25 : Option Addr} {sl_25 : Array (Option Value)}
    {f_26 : Addr} {oc_26 kV_26 dc_26 pm_26 cd_26 ct_26 : Value} {od_26 an_26 : Option Addr} {sl_26 : Array (Option Value)}
    {f_27 : Addr} {oc_27 kV_27 dc_27 pm_27 cd_27 ct_27 : Value} {od_27 an_27 : Option Addr} {sl_27 : Array (Option Value)}
    {f_28 : Addr} {oc_28 kV_28 dc_28 pm_28 cd_28 ct_28 : Value} {od_28 an_28 : Option Addr} {sl_28 : Array (Option Value)}
    {f_29 : Addr} {oc_29 kV_29 dc_29 pm_29 cd_29 ct_29 : Value} {od_29 an_29 : Option Addr} {sl_29 : Array (Option Value)}
    {f_30 : Addr} {oc_30 kV_30 dc_30 pm_30 cd_30 ct_30 : Value} {od_30 an_30 : Option Addr} {sl_30 : Array (Option Value)}
    {f_31 : Addr} {oc_31 kV_31 dc_31 pm_31 cd_31 ct_31 : Value} {od_31 an_31 : Option Addr} {sl_31 : Array (Option Value)}
    {f_32 : Addr} {oc_32 kV_32 dc_32 pm_32 cd_32 ct_32 : Value} {od_32 an_32 : Option Addr} {sl_32 : Array (Option Value)}
    {f_33 : Addr} {oc_33 kV_33 dc_33 pm_33 cd_33 ct_33 : Value} {od_33 an_33 : Option Addr} {sl_33 : Array (Option Value)}
    {f_34 : Addr} {oc_34 kV_34 dc_34 pm_34 cd_34 ct_34 : Value} {od_34 an_34 : Option Addr} {sl_34 : Array (Option Value)}
    {f_35 : Addr} {oc_35 kV_35 dc_35 pm_35 cd_35 ct_35 : Value} {od_35 an_35 : Option Addr} {sl_35 : Array (Option Value)}
    {f_36 : Addr} {oc_36 kV_36 dc_36 pm_36 cd_36 ct_36 : Value} {od_36 an_36 : Option Addr} {sl_36 : Array (Option Value)}
    {f_37 : Addr} {oc_37 kV_37 dc_37 pm_37 cd_37 ct_37 : Value} {od_37 an_37 : Option Addr} {sl_37 : Array (Option Value)}
    {f_38 : Addr} {oc_38 kV_38 dc_38 pm_38 cd_38 ct_38 : Value} {od_38 an_38 : Option Addr} {sl_38 : Array (Option Value)}
    {f_39 : Addr} {oc_39 kV_39 dc_39 pm_39 cd_39 ct_39 : Value} {od_39 an_39 : Option Addr} {sl_39 : Array (Option Value)}
    {f_40 : Addr} {oc_40 kV_40 dc_40 pm_40 cd_40 ct_40 : Value} {od_40 an_40 : Option Addr} {sl_40 : Array (Option Value)}
    (g_LONGEST_INTERVAL : PySem.W.nsIn K mainGlobals "LONGEST_INTERVAL" = some (some (.int (1048576) t_LONGEST_INTERVAL)))
    (g_LAST_TOOTH : PySem.W.nsIn K mainGlobals "LAST_TOOTH" = some (some (.int (34) t_LAST_TOOTH)))
    (g_UNKNOWN : PySem.W.nsIn K mainGlobals "UNKNOWN" = some (some (.int (0) t_UNKNOWN)))
    (g_PERHAPS : PySem.W.nsIn K mainGlobals "PERHAPS" = some (some (.int (1) t_PERHAPS)))
    (g_SURELY : PySem.W.nsIn K mainGlobals "SURELY" = some (some (.int (2) t_SURELY)))
    (g_COIL_ON : PySem.W.nsIn K mainGlobals "COIL_ON" = some (some (.int (0) t_COIL_ON)))
    (g_SPARK : PySem.W.nsIn K mainGlobals "SPARK" = some (some (.int (1) t_SPARK)))
    (g_SOFT_OFF : PySem.W.nsIn K mainGlobals "SOFT_OFF" = some (some (.int (2) t_SOFT_OFF)))
    (g_VALVE_OPENS : PySem.W.nsIn K mainGlobals "VALVE_OPENS" = some (some (.int (3) t_VALVE_OPENS)))
    (g_VALVE_CLOSES : PySem.W.nsIn K mainGlobals "VALVE_CLOSES" = some (some (.int (4) t_VALVE_CLOSES)))
    (g_IDLE : PySem.W.nsIn K mainGlobals "IDLE" = some (some (.int (0) t_IDLE)))
    (g_ON : PySem.W.nsIn K mainGlobals "ON" = some (some (.int (1) t_ON)))
    (g_DONE : PySem.W.nsIn K mainGlobals "DONE" = some (some (.int (2) t_DONE)))
    (g_QUARTER : PySem.W.nsIn K mainGlobals "QUARTER" = some (some (.int (1152) t_QUARTER)))
    (g_HALF : PySem.W.nsIn K mainGlobals "HALF" = some (some (.int (2304) t_HALF)))
    (g_SPARK_BASE : PySem.W.nsIn K mainGlobals "SPARK_BASE" = some (some (.int (640) t_SPARK_BASE)))
    (g_VALVE_BASE : PySem.W.nsIn K mainGlobals "VALVE_BASE" = some (some (.int (2944) t_VALVE_BASE)))
    (g_PLACES : PySem.W.nsIn K mainGlobals "PLACES" = some (some (.int (36) t_PLACES)))
    (g_PLACE : PySem.W.nsIn K mainGlobals "PLACE" = some (some (.int (64) t_PLACE)))
    (g_CYCLE : PySem.W.nsIn K mainGlobals "CYCLE" = some (some (.int (4608) t_CYCLE)))
    (g_SPEED_OF_ONE : PySem.W.nsIn K mainGlobals "SPEED_OF_ONE" = some (some (.int (1048576) t_SPEED_OF_ONE)))
    (g_TOP_SPEED : PySem.W.nsIn K mainGlobals "TOP_SPEED" = some (some (.int (3840) t_TOP_SPEED)))
    (g_SIDE : PySem.W.nsIn K mainGlobals "SIDE" = some (some (.int (16) t_SIDE)))
    (g_STEP : PySem.W.nsIn K mainGlobals "STEP" = some (some (.int (256) t_STEP)))
    (g_LAST : PySem.W.nsIn K mainGlobals "LAST" = some (some (.int (15) t_LAST)))
    (g_REFUSED : PySem.W.nsIn K mainGlobals "REFUSED" = some (some (.int (-22) t_REFUSED)))
    (g_CYLINDERS : PySem.W.nsIn K mainGlobals "CYLINDERS" = some (some (.int (4) t_CYLINDERS)))
    (g_LONGEST_MOST : PySem.W.nsIn K mainGlobals "LONGEST_MOST" = some (some (.int (65536) t_LONGEST_MOST)))
    (g_MOST_ADVANCE : PySem.W.nsIn K mainGlobals "MOST_ADVANCE" = some (some (.int (1024) t_MOST_ADVANCE)))
    (g_MOST_LOAD : PySem.W.nsIn K mainGlobals "MOST_LOAD" = some (some (.int (3840) t_MOST_LOAD)))
    (g_TIMES_END : PySem.W.nsIn K mainGlobals "TIMES_END" = some (some (.int (4611686018427387904) t_TIMES_END)))
    (g_TOOTH_NOT_KNOWN : PySem.W.nsIn K mainGlobals "TOOTH_NOT_KNOWN" = some (some (.int (255) t_TOOTH_NOT_KNOWN)))
    (g_TURN_NOT_KNOWN : PySem.W.nsIn K mainGlobals "TURN_NOT_KNOWN" = some (some (.int (2) t_TURN_NOT_KNOWN)))
    (g_START : PySem.W.nsIn K mainGlobals "START" = some (some (.int (0) t_START)))
    (g_TOOTH : PySem.W.nsIn K mainGlobals "TOOTH" = some (some (.int (1) t_TOOTH)))
    (g_CAM : PySem.W.nsIn K mainGlobals "CAM" = some (some (.int (2) t_CAM)))
    (g_LOAD : PySem.W.nsIn K mainGlobals "LOAD" = some (some (.int (3) t_LOAD)))
    (g_TICK : PySem.W.nsIn K mainGlobals "TICK" = some (some (.int (4) t_TICK)))
    (g_STATE : PySem.W.nsIn K mainGlobals "STATE" = some (some (.int (5) t_STATE)))
    (n_max : PySem.W.nsIn K mainGlobals "max" = some none)
    (n_min : PySem.W.nsIn K mainGlobals "min" = some none)
    (n_len : PySem.W.nsIn K mainGlobals "len" = some none)
    (n_range : PySem.W.nsIn K mainGlobals "range" = some none)
    (a_Crank : PySem.W.nsIn K mainGlobals "Crank" = some (some (.ref aCrank)))
    (pg_Crank : PySem.W.plainGet K aCrank Str.empty = true)
    (hd_Crank : PySem.W.hasDictIn K aCrank = true)
    (po_Crank : PySem.W.plainOver K aCrank = true)
    (sa_Crank : PySem.W.findIn K (.ref aCrank) "__setattr__" = some (some (.builtin "object.__setattr__")))
    (mk_Crank : PySem.W.makesIn K aCrank = true)
    (kc_Crank : PySem.W.keepIn K (.ref aCrank) = true)
    (nf_Crank_last_time : PySem.W.findIn K (.ref aCrank) "last_time" = some none)
    (nf_Crank_interval : PySem.W.findIn K (.ref aCrank) "interval" = some none)
    (nf_Crank_certainty : PySem.W.findIn K (.ref aCrank) "certainty" = some none)
    (nf_Crank_place : PySem.W.findIn K (.ref aCrank) "place" = some none)
    (nf_Crank_turn : PySem.W.findIn K (.ref aCrank) "turn" = some none)
    (nf_Crank_cam_told : PySem.W.findIn K (.ref aCrank) "cam_told" = some none)
    (a_Cylinder : PySem.W.nsIn K mainGlobals "Cylinder" = some (some (.ref aCylinder)))
    (pg_Cylinder : PySem.W.plainGet K aCylinder Str.empty = true)
    (hd_Cylinder : PySem.W.hasDictIn K aCylinder = true)
    (po_Cylinder : PySem.W.plainOver K aCylinder = true)
    (sa_Cylinder : PySem.W.findIn K (.ref aCylinder) "__setattr__" = some (some (.builtin "object.__setattr__")))
    (mk_Cylinder : PySem.W.makesIn K aCylinder = true)
    (kc_Cylinder : PySem.W.keepIn K (.ref aCylinder) = true)
    (nf_Cylinder_number : PySem.W.findIn K (.ref aCylinder) "number" = some none)
    (nf_Cylinder_phase : PySem.W.findIn K (.ref aCylinder) "phase" = some none)
    (nf_Cylinder_went_on : PySem.W.findIn K (.ref aCylinder) "went_on" = some none)
    (nf_Cylinder_off : PySem.W.findIn K (.ref aCylinder) "off" = some none)
    (a_Moment : PySem.W.nsIn K mainGlobals "Moment" = some (some (.ref aMoment)))
    (pg_Moment : PySem.W.plainGet K aMoment Str.empty = true)
    (hd_Moment : PySem.W.hasDictIn K aMoment = true)
    (po_Moment : PySem.W.plainOver K aMoment = true)
    (sa_Moment : PySem.W.findIn K (.ref aMoment) "__setattr__" = some (some (.builtin "object.__setattr__")))
    (mk_Moment : PySem.W.makesIn K aMoment = true)
    (kc_Moment : PySem.W.keepIn K (.ref aMoment) = true)
    (nf_Moment_now : PySem.W.findIn K (.ref aMoment) "now" = some none)
    (nf_Moment_position : PySem.W.findIn K (.ref aMoment) "position" = some none)
    (nf_Moment_pace : PySem.W.findIn K (.ref aMoment) "pace" = some none)
    (nf_Moment_span : PySem.W.findIn K (.ref aMoment) "span" = some none)
    (a_Timing : PySem.W.nsIn K mainGlobals "Timing" = some (some (.ref aTiming)))
    (pg_Timing : PySem.W.plainGet K aTiming Str.empty = true)
    (hd_Timing : PySem.W.hasDictIn K aTiming = true)
    (po_Timing : PySem.W.plainOver K aTiming = true)
    (sa_Timing : PySem.W.findIn K (.ref aTiming) "__setattr__" = some (some (.builtin "object.__setattr__")))
    (mk_Timing : PySem.W.makesIn K aTiming = true)
    (kc_Timing : PySem.W.keepIn K (.ref aTiming) = true)
    (nf_Timing_dwell : PySem.W.findIn K (.ref aTiming) "dwell" = some none)
    (nf_Timing_most : PySem.W.findIn K (.ref aTiming) "most" = some none)
    (nf_Timing_advance : PySem.W.findIn K (.ref aTiming) "advance" = some none)
    (nf_Timing_fuel : PySem.W.findIn K (.ref aTiming) "fuel" = some none)
    (a_Engine : PySem.W.nsIn K mainGlobals "Engine" = some (some (.ref aEngine)))
    (pg_Engine : PySem.W.plainGet K aEngine Str.empty = true)
    (hd_Engine : PySem.W.hasDictIn K aEngine = true)
    (po_Engine : PySem.W.plainOver K aEngine = true)
    (sa_Engine : PySem.W.findIn K (.ref aEngine) "__setattr__" = some (some (.builtin "object.__setattr__")))
    (mk_Engine : PySem.W.makesIn K aEngine = true)
    (kc_Engine : PySem.W.keepIn K (.ref aEngine) = true)
    (nf_Engine_dwell : PySem.W.findIn K (.ref aEngine) "dwell" = some none)
    (nf_Engine_most : PySem.W.findIn K (.ref aEngine) "most" = some none)
    (nf_Engine_advances : PySem.W.findIn K (.ref aEngine) "advances" = some none)
    (nf_Engine_fuels : PySem.W.findIn K (.ref aEngine) "fuels" = some none)
    (nf_Engine_load_now : PySem.W.findIn K (.ref aEngine) "load_now" = some none)
    (nf_Engine_crank : PySem.W.findIn K (.ref aEngine) "crank" = some none)
    (nf_Engine_cylinders : PySem.W.findIn K (.ref aEngine) "cylinders" = some none)
    (a_0 : PySem.W.findIn K (.ref aCrank) "__init__" = some (some (.ref f_0)))
    (i_0 : PySem.W.isFn K (.ref f_0) = true)
    (l_0 : K.lookup f_0 = some ⟨oc_0, od_0, .func (PySem.W.fnOf "__init__" "Crank.__init__" (defArgs s_Crank___init__) (defBody s_Crank___init__) (defScope s_Crank___init__) .none kV_0 dc_0 pm_0 an_0 cd_0 ct_0), sl_0⟩)
    (c_0 : PySem.W.codeIn K cd_0 "Crank.__init__" = true)
    (k_0 : PySem.W.keepIn K (.ref f_0) = true)
    (a_1 : PySem.W.findIn K (.ref aCrank) "comes_behind" = some (some (.ref f_1)))
    (i_1 : PySem.W.isFn K (.ref f_1) = true)
    (l_1 : K.lookup f_1 = some ⟨oc_1, od_1, .func (PySem.W.fnOf "comes_behind" "Crank.comes_behind" (defArgs s_Crank_comes_behind) (defBody s_Crank_comes_behind) (defScope s_Crank_comes_behind) .none kV_1 dc_1 pm_1 an_1 cd_1 ct_1), sl_1⟩)
    (c_1 : PySem.W.codeIn K cd_1 "Crank.comes_behind" = true)
    (k_1 : PySem.W.keepIn K (.ref f_1) = true)
    (a_2 : PySem.W.findIn K (.ref aCrank) "pass_tooth" = some (some (.ref f_2)))
    (i_2 : PySem.W.isFn K (.ref f_2) = true)
    (l_2 : K.lookup f_2 = some ⟨oc_2, od_2, .func (PySem.W.fnOf "pass_tooth" "Crank.pass_tooth" (defArgs s_Crank_pass_tooth) (defBody s_Crank_pass_tooth) (defScope s_Crank_pass_tooth) .none kV_2 dc_2 pm_2 an_2 cd_2 ct_2), sl_2⟩)
    (c_2 : PySem.W.codeIn K cd_2 "Crank.pass_tooth" = true)
    (k_2 : PySem.W.keepIn K (.ref f_2) = true)
    (a_3 : PySem.W.findIn K (.ref aCrank) "stands_still" = some (some (.ref f_3)))
    (i_3 : PySem.W.isFn K (.ref f_3) = true)
    (l_3 : K.lookup f_3 = some ⟨oc_3, od_3, .func (PySem.W.fnOf "stands_still" "Crank.stands_still" (defArgs s_Crank_stands_still) (defBody s_Crank_stands_still) (defScope s_Crank_stands_still) .none kV_3 dc_3 pm_3 an_3 cd_3 ct_3), sl_3⟩)
    (c_3 : PySem.W.codeIn K cd_3 "Crank.stands_still" = true)
    (k_3 : PySem.W.keepIn K (.ref f_3) = true)
    (a_4 : PySem.W.findIn K (.ref aCrank) "interval_at" = some (some (.ref f_4)))
    (i_4 : PySem.W.isFn K (.ref f_4) = true)
    (l_4 : K.lookup f_4 = some ⟨oc_4, od_4, .func (PySem.W.fnOf "interval_at" "Crank.interval_at" (defArgs s_Crank_interval_at) (defBody s_Crank_interval_at) (defScope s_Crank_interval_at) .none kV_4 dc_4 pm_4 an_4 cd_4 ct_4), sl_4⟩)
    (c_4 : PySem.W.codeIn K cd_4 "Crank.interval_at" = true)
    (k_4 : PySem.W.keepIn K (.ref f_4) = true)
    (a_5 : PySem.W.findIn K (.ref aCrank) "is_gap" = some (some (.ref f_5)))
    (i_5 : PySem.W.isFn K (.ref f_5) = true)
    (l_5 : K.lookup f_5 = some ⟨oc_5, od_5, .func (PySem.W.fnOf "is_gap" "Crank.is_gap" (defArgs s_Crank_is_gap) (defBody s_Crank_is_gap) (defScope s_Crank_is_gap) .none kV_5 dc_5 pm_5 an_5 cd_5 ct_5), sl_5⟩)
    (c_5 : PySem.W.codeIn K cd_5 "Crank.is_gap" = true)
    (k_5 : PySem.W.keepIn K (.ref f_5) = true)
    (a_6 : PySem.W.findIn K (.ref aCrank) "move" = some (some (.ref f_6)))
    (i_6 : PySem.W.isFn K (.ref f_6) = true)
    (l_6 : K.lookup f_6 = some ⟨oc_6, od_6, .func (PySem.W.fnOf "move" "Crank.move" (defArgs s_Crank_move) (defBody s_Crank_move) (defScope s_Crank_move) .none kV_6 dc_6 pm_6 an_6 cd_6 ct_6), sl_6⟩)
    (c_6 : PySem.W.codeIn K cd_6 "Crank.move" = true)
    (k_6 : PySem.W.keepIn K (.ref f_6) = true)
    (a_7 : PySem.W.findIn K (.ref aCrank) "settle_turn" = some (some (.ref f_7)))
    (i_7 : PySem.W.isFn K (.ref f_7) = true)
    (l_7 : K.lookup f_7 = some ⟨oc_7, od_7, .func (PySem.W.fnOf "settle_turn" "Crank.settle_turn" (defArgs s_Crank_settle_turn) (defBody s_Crank_settle_turn) (defScope s_Crank_settle_turn) .none kV_7 dc_7 pm_7 an_7 cd_7 ct_7), sl_7⟩)
    (c_7 : PySem.W.codeIn K cd_7 "Crank.settle_turn" = true)
    (k_7 : PySem.W.keepIn K (.ref f_7) = true)
    (a_8 : PySem.W.findIn K (.ref aCrank) "turn_begun" = some (some (.ref f_8)))
    (i_8 : PySem.W.isFn K (.ref f_8) = true)
    (l_8 : K.lookup f_8 = some ⟨oc_8, od_8, .func (PySem.W.fnOf "turn_begun" "Crank.turn_begun" (defArgs s_Crank_turn_begun) (defBody s_Crank_turn_begun) (defScope s_Crank_turn_begun) .none kV_8 dc_8 pm_8 an_8 cd_8 ct_8), sl_8⟩)
    (c_8 : PySem.W.codeIn K cd_8 "Crank.turn_begun" = true)
    (k_8 : PySem.W.keepIn K (.ref f_8) = true)
    (a_9 : PySem.W.findIn K (.ref aCrank) "tell_cam" = some (some (.ref f_9)))
    (i_9 : PySem.W.isFn K (.ref f_9) = true)
    (l_9 : K.lookup f_9 = some ⟨oc_9, od_9, .func (PySem.W.fnOf "tell_cam" "Crank.tell_cam" (defArgs s_Crank_tell_cam) (defBody s_Crank_tell_cam) (defScope s_Crank_tell_cam) .none kV_9 dc_9 pm_9 an_9 cd_9 ct_9), sl_9⟩)
    (c_9 : PySem.W.codeIn K cd_9 "Crank.tell_cam" = true)
    (k_9 : PySem.W.keepIn K (.ref f_9) = true)
    (a_10 : PySem.W.findIn K (.ref aCrank) "is_sure" = some (some (.ref f_10)))
    (i_10 : PySem.W.isFn K (.ref f_10) = true)
    (l_10 : K.lookup f_10 = some ⟨oc_10, od_10, .func (PySem.W.fnOf "is_sure" "Crank.is_sure" (defArgs s_Crank_is_sure) (defBody s_Crank_is_sure) (defScope s_Crank_is_sure) .none kV_10 dc_10 pm_10 an_10 cd_10 ct_10), sl_10⟩)
    (c_10 : PySem.W.codeIn K cd_10 "Crank.is_sure" = true)
    (k_10 : PySem.W.keepIn K (.ref f_10) = true)
    (a_11 : PySem.W.findIn K (.ref aCrank) "is_known" = some (some (.ref f_11)))
    (i_11 : PySem.W.isFn K (.ref f_11) = true)
    (l_11 : K.lookup f_11 = some ⟨oc_11, od_11, .func (PySem.W.fnOf "is_known" "Crank.is_known" (defArgs s_Crank_is_known) (defBody s_Crank_is_known) (defScope s_Crank_is_known) .none kV_11 dc_11 pm_11 an_11 cd_11 ct_11), sl_11⟩)
    (c_11 : PySem.W.codeIn K cd_11 "Crank.is_known" = true)
    (k_11 : PySem.W.keepIn K (.ref f_11) = true)
    (a_12 : PySem.W.findIn K (.ref aCylinder) "__init__" = some (some (.ref f_12)))
    (i_12 : PySem.W.isFn K (.ref f_12) = true)
    (l_12 : K.lookup f_12 = some ⟨oc_12, od_12, .func (PySem.W.fnOf "__init__" "Cylinder.__init__" (defArgs s_Cylinder___init__) (defBody s_Cylinder___init__) (defScope s_Cylinder___init__) .none kV_12 dc_12 pm_12 an_12 cd_12 ct_12), sl_12⟩)
    (c_12 : PySem.W.codeIn K cd_12 "Cylinder.__init__" = true)
    (k_12 : PySem.W.keepIn K (.ref f_12) = true)
    (a_13 : PySem.W.findIn K (.ref aCylinder) "give_up" = some (some (.ref f_13)))
    (i_13 : PySem.W.isFn K (.ref f_13) = true)
    (l_13 : K.lookup f_13 = some ⟨oc_13, od_13, .func (PySem.W.fnOf "give_up" "Cylinder.give_up" (defArgs s_Cylinder_give_up) (defBody s_Cylinder_give_up) (defScope s_Cylinder_give_up) .none kV_13 dc_13 pm_13 an_13 cd_13 ct_13), sl_13⟩)
    (c_13 : PySem.W.codeIn K cd_13 "Cylinder.give_up" = true)
    (k_13 : PySem.W.keepIn K (.ref f_13) = true)
    (a_14 : PySem.W.findIn K (.ref aCylinder) "follow" = some (some (.ref f_14)))
    (i_14 : PySem.W.isFn K (.ref f_14) = true)
    (l_14 : K.lookup f_14 = some ⟨oc_14, od_14, .func (PySem.W.fnOf "follow" "Cylinder.follow" (defArgs s_Cylinder_follow) (defBody s_Cylinder_follow) (defScope s_Cylinder_follow) .none kV_14 dc_14 pm_14 an_14 cd_14 ct_14), sl_14⟩)
    (c_14 : PySem.W.codeIn K cd_14 "Cylinder.follow" = true)
    (k_14 : PySem.W.keepIn K (.ref f_14) = true)
    (a_15 : PySem.W.findIn K (.ref aCylinder) "rest" = some (some (.ref f_15)))
    (i_15 : PySem.W.isFn K (.ref f_15) = true)
    (l_15 : K.lookup f_15 = some ⟨oc_15, od_15, .func (PySem.W.fnOf "rest" "Cylinder.rest" (defArgs s_Cylinder_rest) (defBody s_Cylinder_rest) (defScope s_Cylinder_rest) .none kV_15 dc_15 pm_15 an_15 cd_15 ct_15), sl_15⟩)
    (c_15 : PySem.W.codeIn K cd_15 "Cylinder.rest" = true)
    (k_15 : PySem.W.keepIn K (.ref f_15) = true)
    (a_16 : PySem.W.findIn K (.ref aCylinder) "go_on" = some (some (.ref f_16)))
    (i_16 : PySem.W.isFn K (.ref f_16) = true)
    (l_16 : K.lookup f_16 = some ⟨oc_16, od_16, .func (PySem.W.fnOf "go_on" "Cylinder.go_on" (defArgs s_Cylinder_go_on) (defBody s_Cylinder_go_on) (defScope s_Cylinder_go_on) .none kV_16 dc_16 pm_16 an_16 cd_16 ct_16), sl_16⟩)
    (c_16 : PySem.W.codeIn K cd_16 "Cylinder.go_on" = true)
    (k_16 : PySem.W.keepIn K (.ref f_16) = true)
    (a_17 : PySem.W.findIn K (.ref aCylinder) "spark" = some (some (.ref f_17)))
    (i_17 : PySem.W.isFn K (.ref f_17) = true)
    (l_17 : K.lookup f_17 = some ⟨oc_17, od_17, .func (PySem.W.fnOf "spark" "Cylinder.spark" (defArgs s_Cylinder_spark) (defBody s_Cylinder_spark) (defScope s_Cylinder_spark) .none kV_17 dc_17 pm_17 an_17 cd_17 ct_17), sl_17⟩)
    (c_17 : PySem.W.codeIn K cd_17 "Cylinder.spark" = true)
    (k_17 : PySem.W.keepIn K (.ref f_17) = true)
    (a_18 : PySem.W.findIn K (.ref aCylinder) "feed" = some (some (.ref f_18)))
    (i_18 : PySem.W.isFn K (.ref f_18) = true)
    (l_18 : K.lookup f_18 = some ⟨oc_18, od_18, .func (PySem.W.fnOf "feed" "Cylinder.feed" (defArgs s_Cylinder_feed) (defBody s_Cylinder_feed) (defScope s_Cylinder_feed) .none kV_18 dc_18 pm_18 an_18 cd_18 ct_18), sl_18⟩)
    (c_18 : PySem.W.codeIn K cd_18 "Cylinder.feed" = true)
    (k_18 : PySem.W.keepIn K (.ref f_18) = true)
    (a_19 : PySem.W.findIn K (.ref aMoment) "__init__" = some (some (.ref f_19)))
    (i_19 : PySem.W.isFn K (.ref f_19) = true)
    (l_19 : K.lookup f_19 = some ⟨oc_19, od_19, .func (PySem.W.fnOf "__init__" "Moment.__init__" (defArgs s_Moment___init__) (defBody s_Moment___init__) (defScope s_Moment___init__) .none kV_19 dc_19 pm_19 an_19 cd_19 ct_19), sl_19⟩)
    (c_19 : PySem.W.codeIn K cd_19 "Moment.__init__" = true)
    (k_19 : PySem.W.keepIn K (.ref f_19) = true)
    (a_20 : PySem.W.findIn K (.ref aMoment) "ahead" = some (some (.ref f_20)))
    (i_20 : PySem.W.isFn K (.ref f_20) = true)
    (l_20 : K.lookup f_20 = some ⟨oc_20, od_20, .func (PySem.W.fnOf "ahead" "Moment.ahead" (defArgs s_Moment_ahead) (defBody s_Moment_ahead) (defScope s_Moment_ahead) .none kV_20 dc_20 pm_20 an_20 cd_20 ct_20), sl_20⟩)
    (c_20 : PySem.W.codeIn K cd_20 "Moment.ahead" = true)
    (k_20 : PySem.W.keepIn K (.ref f_20) = true)
    (a_21 : PySem.W.findIn K (.ref aMoment) "time_of" = some (some (.ref f_21)))
    (i_21 : PySem.W.isFn K (.ref f_21) = true)
    (l_21 : K.lookup f_21 = some ⟨oc_21, od_21, .func (PySem.W.fnOf "time_of" "Moment.time_of" (defArgs s_Moment_time_of) (defBody s_Moment_time_of) (defScope s_Moment_time_of) .none kV_21 dc_21 pm_21 an_21 cd_21 ct_21), sl_21⟩)
    (c_21 : PySem.W.codeIn K cd_21 "Moment.time_of" = true)
    (k_21 : PySem.W.keepIn K (.ref f_21) = true)
    (a_22 : PySem.W.findIn K (.ref aMoment) "speed" = some (some (.ref f_22)))
    (i_22 : PySem.W.isFn K (.ref f_22) = true)
    (l_22 : K.lookup f_22 = some ⟨oc_22, od_22, .func (PySem.W.fnOf "speed" "Moment.speed" (defArgs s_Moment_speed) (defBody s_Moment_speed) (defScope s_Moment_speed) .none kV_22 dc_22 pm_22 an_22 cd_22 ct_22), sl_22⟩)
    (c_22 : PySem.W.codeIn K cd_22 "Moment.speed" = true)
    (k_22 : PySem.W.keepIn K (.ref f_22) = true)
    (a_23 : PySem.W.nsIn K mainGlobals "look_between" = some (some (.ref f_23)))
    (l_23 : K.lookup f_23 = some ⟨oc_23, od_23, .func (PySem.W.fnOf "look_between" "look_between" (defArgs s_look_between) (defBody s_look_between) (defScope s_look_between) .none kV_23 dc_23 pm_23 an_23 cd_23 ct_23), sl_23⟩)
    (c_23 : PySem.W.codeIn K cd_23 "look_between" = true)
    (k_23 : PySem.W.keepIn K (.ref f_23) = true)
    (a_24 : PySem.W.nsIn K mainGlobals "share" = some (some (.ref f_24)))
    (l_24 : K.lookup f_24 = some ⟨oc_24, od_24, .func (PySem.W.fnOf "share" "share" (defArgs s_share) (defBody s_share) (defScope s_share) .none kV_24 dc_24 pm_24 an_24 cd_24 ct_24), sl_24⟩)
    (c_24 : PySem.W.codeIn K cd_24 "share" = true)
    (k_24 : PySem.W.keepIn K (.ref f_24) = true)
    (a_25 : PySem.W.findIn K (.ref aTiming) "__init__" = some (some (.ref f_25)))
    (i_25 : PySem.W.isFn K (.ref f_25) = true)
    (l_25 : K.lookup f_25 = some ⟨oc_25, od_25, .func (PySem.W.fnOf "__init__" "Timing.__init__" (defArgs s_Timing___init__) (defBody s_Timing___init__) (defScope s_Timing___init__) .none kV_25 dc_25 pm_25 an_25 cd_25 ct_25), sl_25⟩)
    (c_25 : PySem.W.codeIn K cd_25 "Timing.__init__" = true)
    (k_25 : PySem.W.keepIn K (.ref f_25) = true)
    (a_26 : PySem.W.findIn K (.ref aEngine) "__init__" = some (some (.ref f_26)))
    (i_26 : PySem.W.isFn K (.ref f_26) = true)
    (l_26 : K.lookup f_26 = some ⟨oc_26, od_26, .func (PySem.W.fnOf "__init__" "Engine.__init__" (defArgs s_Engine___init__) (defBody s_Engine___init__) (defScope s_Engine___init__) .none kV_26 dc_26 pm_26 an_26 cd_26 ct_26), sl_26⟩)
    (c_26 : PySem.W.codeIn K cd_26 "Engine.__init__" = true)
    (k_26 : PySem.W.keepIn K (.ref f_26) = true)
    (a_27 : PySem.W.findIn K (.ref aEngine) "begin" = some (some (.ref f_27)))
    (i_27 : PySem.W.isFn K (.ref f_27) = true)
    (l_27 : K.lookup f_27 = some ⟨oc_27, od_27, .func (PySem.W.fnOf "begin" "Engine.begin" (defArgs s_Engine_begin) (defBody s_Engine_begin) (defScope s_Engine_begin) .none kV_27 dc_27 pm_27 an_27 cd_27 ct_27), sl_27⟩)
    (c_27 : PySem.W.codeIn K cd_27 "Engine.begin" = true)
    (k_27 : PySem.W.keepIn K (.ref f_27) = true)
    (a_28 : PySem.W.findIn K (.ref aEngine) "start" = some (some (.ref f_28)))
    (i_28 : PySem.W.isFn K (.ref f_28) = true)
    (l_28 : K.lookup f_28 = some ⟨oc_28, od_28, .func (PySem.W.fnOf "start" "Engine.start" (defArgs s_Engine_start) (defBody s_Engine_start) (defScope s_Engine_start) .none kV_28 dc_28 pm_28 an_28 cd_28 ct_28), sl_28⟩)
    (c_28 : PySem.W.codeIn K cd_28 "Engine.start" = true)
    (k_28 : PySem.W.keepIn K (.ref f_28) = true)
    (a_29 : PySem.W.findIn K (.ref aEngine) "may_come" = some (some (.ref f_29)))
    (i_29 : PySem.W.isFn K (.ref f_29) = true)
    (l_29 : K.lookup f_29 = some ⟨oc_29, od_29, .func (PySem.W.fnOf "may_come" "Engine.may_come" (defArgs s_Engine_may_come) (defBody s_Engine_may_come) (defScope s_Engine_may_come) .none kV_29 dc_29 pm_29 an_29 cd_29 ct_29), sl_29⟩)
    (c_29 : PySem.W.codeIn K cd_29 "Engine.may_come" = true)
    (k_29 : PySem.W.keepIn K (.ref f_29) = true)
    (a_30 : PySem.W.findIn K (.ref aEngine) "tooth" = some (some (.ref f_30)))
    (i_30 : PySem.W.isFn K (.ref f_30) = true)
    (l_30 : K.lookup f_30 = some ⟨oc_30, od_30, .func (PySem.W.fnOf "tooth" "Engine.tooth" (defArgs s_Engine_tooth) (defBody s_Engine_tooth) (defScope s_Engine_tooth) .none kV_30 dc_30 pm_30 an_30 cd_30 ct_30), sl_30⟩)
    (c_30 : PySem.W.codeIn K cd_30 "Engine.tooth" = true)
    (k_30 : PySem.W.keepIn K (.ref f_30) = true)
    (a_31 : PySem.W.findIn K (.ref aEngine) "give_up_all" = some (some (.ref f_31)))
    (i_31 : PySem.W.isFn K (.ref f_31) = true)
    (l_31 : K.lookup f_31 = some ⟨oc_31, od_31, .func (PySem.W.fnOf "give_up_all" "Engine.give_up_all" (defArgs s_Engine_give_up_all) (defBody s_Engine_give_up_all) (defScope s_Engine_give_up_all) .none kV_31 dc_31 pm_31 an_31 cd_31 ct_31), sl_31⟩)
    (c_31 : PySem.W.codeIn K cd_31 "Engine.give_up_all" = true)
    (k_31 : PySem.W.keepIn K (.ref f_31) = true)
    (a_32 : PySem.W.findIn K (.ref aEngine) "follow_all" = some (some (.ref f_32)))
    (i_32 : PySem.W.isFn K (.ref f_32) = true)
    (l_32 : K.lookup f_32 = some ⟨oc_32, od_32, .func (PySem.W.fnOf "follow_all" "Engine.follow_all" (defArgs s_Engine_follow_all) (defBody s_Engine_follow_all) (defScope s_Engine_follow_all) .none kV_32 dc_32 pm_32 an_32 cd_32 ct_32), sl_32⟩)
    (c_32 : PySem.W.codeIn K cd_32 "Engine.follow_all" = true)
    (k_32 : PySem.W.keepIn K (.ref f_32) = true)
    (a_33 : PySem.W.findIn K (.ref aEngine) "timing_at" = some (some (.ref f_33)))
    (i_33 : PySem.W.isFn K (.ref f_33) = true)
    (l_33 : K.lookup f_33 = some ⟨oc_33, od_33, .func (PySem.W.fnOf "timing_at" "Engine.timing_at" (defArgs s_Engine_timing_at) (defBody s_Engine_timing_at) (defScope s_Engine_timing_at) .none kV_33 dc_33 pm_33 an_33 cd_33 ct_33), sl_33⟩)
    (c_33 : PySem.W.codeIn K cd_33 "Engine.timing_at" = true)
    (k_33 : PySem.W.keepIn K (.ref f_33) = true)
    (a_34 : PySem.W.findIn K (.ref aEngine) "cam" = some (some (.ref f_34)))
    (i_34 : PySem.W.isFn K (.ref f_34) = true)
    (l_34 : K.lookup f_34 = some ⟨oc_34, od_34, .func (PySem.W.fnOf "cam" "Engine.cam" (defArgs s_Engine_cam) (defBody s_Engine_cam) (defScope s_Engine_cam) .none kV_34 dc_34 pm_34 an_34 cd_34 ct_34), sl_34⟩)
    (c_34 : PySem.W.codeIn K cd_34 "Engine.cam" = true)
    (k_34 : PySem.W.keepIn K (.ref f_34) = true)
    (a_35 : PySem.W.findIn K (.ref aEngine) "load" = some (some (.ref f_35)))
    (i_35 : PySem.W.isFn K (.ref f_35) = true)
    (l_35 : K.lookup f_35 = some ⟨oc_35, od_35, .func (PySem.W.fnOf "load" "Engine.load" (defArgs s_Engine_load) (defBody s_Engine_load) (defScope s_Engine_load) .none kV_35 dc_35 pm_35 an_35 cd_35 ct_35), sl_35⟩)
    (c_35 : PySem.W.codeIn K cd_35 "Engine.load" = true)
    (k_35 : PySem.W.keepIn K (.ref f_35) = true)
    (a_36 : PySem.W.findIn K (.ref aEngine) "tick" = some (some (.ref f_36)))
    (i_36 : PySem.W.isFn K (.ref f_36) = true)
    (l_36 : K.lookup f_36 = some ⟨oc_36, od_36, .func (PySem.W.fnOf "tick" "Engine.tick" (defArgs s_Engine_tick) (defBody s_Engine_tick) (defScope s_Engine_tick) .none kV_36 dc_36 pm_36 an_36 cd_36 ct_36), sl_36⟩)
    (c_36 : PySem.W.codeIn K cd_36 "Engine.tick" = true)
    (k_36 : PySem.W.keepIn K (.ref f_36) = true)
    (a_37 : PySem.W.findIn K (.ref aEngine) "state" = some (some (.ref f_37)))
    (i_37 : PySem.W.isFn K (.ref f_37) = true)
    (l_37 : K.lookup f_37 = some ⟨oc_37, od_37, .func (PySem.W.fnOf "state" "Engine.state" (defArgs s_Engine_state) (defBody s_Engine_state) (defScope s_Engine_state) .none kV_37 dc_37 pm_37 an_37 cd_37 ct_37), sl_37⟩)
    (c_37 : PySem.W.codeIn K cd_37 "Engine.state" = true)
    (k_37 : PySem.W.keepIn K (.ref f_37) = true)
    (a_38 : PySem.W.nsIn K mainGlobals "answers" = some (some (.ref f_38)))
    (l_38 : K.lookup f_38 = some ⟨oc_38, od_38, .func (PySem.W.fnOf "answers" "answers" (defArgs s_answers) (defBody s_answers) (defScope s_answers) .none kV_38 dc_38 pm_38 an_38 cd_38 ct_38), sl_38⟩)
    (c_38 : PySem.W.codeIn K cd_38 "answers" = true)
    (k_38 : PySem.W.keepIn K (.ref f_38) = true)
    (a_39 : PySem.W.nsIn K mainGlobals "call_length" = some (some (.ref f_39)))
    (l_39 : K.lookup f_39 = some ⟨oc_39, od_39, .func (PySem.W.fnOf "call_length" "call_length" (defArgs s_call_length) (defBody s_call_length) (defScope s_call_length) .none kV_39 dc_39 pm_39 an_39 cd_39 ct_39), sl_39⟩)
    (c_39 : PySem.W.codeIn K cd_39 "call_length" = true)
    (k_39 : PySem.W.keepIn K (.ref f_39) = true)
    (a_40 : PySem.W.nsIn K mainGlobals "answer_call" = some (some (.ref f_40)))
    (l_40 : K.lookup f_40 = some ⟨oc_40, od_40, .func (PySem.W.fnOf "answer_call" "answer_call" (defArgs s_answer_call) (defBody s_answer_call) (defScope s_answer_call) .none kV_40 dc_40 pm_40 an_40 cd_40 ct_40), sl_40⟩)
    (c_40 : PySem.W.codeIn K cd_40 "answer_call" = true)
    (k_40 : PySem.W.keepIn K (.ref f_40) = true)
    : ∃ fd : FuncData, (∀ (s : Shared) (us : List Value), us.length = (["calls"] : List Str).length → BindsTo s fd ⟨us, []⟩ ((["calls"] : List Str).zip us)) ∧ ∀ base : Heap, K.In base → base.Ns mainGlobals mg → FnOk P w K mg base CX0 7 fa fd ["calls"] (sp_answers0 K) := by
  have F_0 := fun_mk (st := s_Crank___init__) l_0 c_0 k_0
  have b_0 := F_0.binds (ps := ["self"]) fun _ _ _ _ _ _ us hl => match us, hl with | [_], _ => rfl
  have F_1 := fun_mk (st := s_Crank_comes_behind) l_1 c_1 k_1
  have b_1 := F_1.binds (ps := ["self", "t"]) fun _ _ _ _ _ _ us hl => match us, hl with | [_, _], _ => rfl
  have F_2 := fun_mk (st := s_Crank_pass_tooth) l_2 c_2 k_2
  have b_2 := F_2.binds (ps := ["self", "t"]) fun _ _ _ _ _ _ us hl => match us, hl with | [_, _], _ => rfl
  have F_3 := fun_mk (st := s_Crank_stands_still) l_3 c_3 k_3
  have b_3 := F_3.binds (ps := ["self", "t"]) fun _ _ _ _ _ _ us hl => match us, hl with | [_, _], _ => rfl
  have F_4 := fun_mk (st := s_Crank_interval_at) l_4 c_4 k_4
  have b_4 := F_4.binds (ps := ["self", "t"]) fun _ _ _ _ _ _ us hl => match us, hl with | [_, _], _ => rfl
  have F_5 := fun_mk (st := s_Crank_is_gap) l_5 c_5 k_5
  have b_5 := F_5.binds (ps := ["self", "interval"]) fun _ _ _ _ _ _ us hl => match us, hl with | [_, _], _ => rfl
  have F_6 := fun_mk (st := s_Crank_move) l_6 c_6 k_6
  have b_6 := F_6.binds (ps := ["self", "gap"]) fun _ _ _ _ _ _ us hl => match us, hl with | [_, _], _ => rfl
  have F_7 := fun_mk (st := s_Crank_settle_turn) l_7 c_7 k_7
  have b_7 := F_7.binds (ps := ["self"]) fun _ _ _ _ _ _ us hl => match us, hl with | [_], _ => rfl
  have F_8 := fun_mk (st := s_Crank_turn_begun) l_8 c_8 k_8
  have b_8 := F_8.binds (ps := ["self"]) fun _ _ _ _ _ _ us hl => match us, hl with | [_], _ => rfl
  have F_9 := fun_mk (st := s_Crank_tell_cam) l_9 c_9 k_9
  have b_9 := F_9.binds (ps := ["self"]) fun _ _ _ _ _ _ us hl => match us, hl with | [_], _ => rfl
  have F_10 := fun_mk (st := s_Crank_is_sure) l_10 c_10 k_10
  have b_10 := F_10.binds (ps := ["self"]) fun _ _ _ _ _ _ us hl => match us, hl with | [_], _ => rfl
  have F_11 := fun_mk (st := s_Crank_is_known) l_11 c_11 k_11
  have b_11 := F_11.binds (ps := ["self"]) fun _ _ _ _ _ _ us hl => match us, hl with | [_], _ => rfl
  have F_12 := fun_mk (st := s_Cylinder___init__) l_12 c_12 k_12
  have b_12 := F_12.binds (ps := ["self", "number"]) fun _ _ _ _ _ _ us hl => match us, hl with | [_, _], _ => rfl
  have F_13 := fun_mk (st := s_Cylinder_give_up) l_13 c_13 k_13
  have b_13 := F_13.binds (ps := ["self", "t"]) fun _ _ _ _ _ _ us hl => match us, hl with | [_, _], _ => rfl
  have F_14 := fun_mk (st := s_Cylinder_follow) l_14 c_14 k_14
  have b_14 := F_14.binds (ps := ["self", "moment", "timing"]) fun _ _ _ _ _ _ us hl => match us, hl with | [_, _, _], _ => rfl
  have F_15 := fun_mk (st := s_Cylinder_rest) l_15 c_15 k_15
  have b_15 := F_15.binds (ps := ["self", "ahead"]) fun _ _ _ _ _ _ us hl => match us, hl with | [_, _], _ => rfl
  have F_16 := fun_mk (st := s_Cylinder_go_on) l_16 c_16 k_16
  have b_16 := F_16.binds (ps := ["self", "moment", "ahead", "timing"]) fun _ _ _ _ _ _ us hl => match us, hl with | [_, _, _, _], _ => rfl
  have F_17 := fun_mk (st := s_Cylinder_spark) l_17 c_17 k_17
  have b_17 := F_17.binds (ps := ["self", "moment", "ahead", "timing"]) fun _ _ _ _ _ _ us hl => match us, hl with | [_, _, _, _], _ => rfl
  have F_18 := fun_mk (st := s_Cylinder_feed) l_18 c_18 k_18
  have b_18 := F_18.binds (ps := ["self", "moment", "timing"]) fun _ _ _ _ _ _ us hl => match us, hl with | [_, _, _], _ => rfl
  have F_19 := fun_mk (st := s_Moment___init__) l_19 c_19 k_19
  have b_19 := F_19.binds (ps := ["self", "crank"]) fun _ _ _ _ _ _ us hl => match us, hl with | [_, _], _ => rfl
  have F_20 := fun_mk (st := s_Moment_ahead) l_20 c_20 k_20
  have b_20 := F_20.binds (ps := ["self", "position"]) fun _ _ _ _ _ _ us hl => match us, hl with | [_, _], _ => rfl
  have F_21 := fun_mk (st := s_Moment_time_of) l_21 c_21 k_21
  have b_21 := F_21.binds (ps := ["self", "distance"]) fun _ _ _ _ _ _ us hl => match us, hl with | [_, _], _ => rfl
  have F_22 := fun_mk (st := s_Moment_speed) l_22 c_22 k_22
  have b_22 := F_22.binds (ps := ["self"]) fun _ _ _ _ _ _ us hl => match us, hl with | [_], _ => rfl
  have F_23 := fun_mk (st := s_look_between) l_23 c_23 k_23
  have b_23 := F_23.binds (ps := ["table", "x", "y"]) fun _ _ _ _ _ _ us hl => match us, hl with | [_, _, _], _ => rfl
  have F_24 := fun_mk (st := s_share) l_24 c_24 k_24
  have b_24 := F_24.binds (ps := ["here", "there", "way"]) fun _ _ _ _ _ _ us hl => match us, hl with | [_, _, _], _ => rfl
  have F_25 := fun_mk (st := s_Timing___init__) l_25 c_25 k_25
  have b_25 := F_25.binds (ps := ["self", "dwell", "most", "advance", "fuel"]) fun _ _ _ _ _ _ us hl => match us, hl with | [_, _, _, _, _], _ => rfl
  have F_26 := fun_mk (st := s_Engine___init__) l_26 c_26 k_26
  have b_26 := F_26.binds (ps := ["self"]) fun _ _ _ _ _ _ us hl => match us, hl with | [_], _ => rfl
  have F_27 := fun_mk (st := s_Engine_begin) l_27 c_27 k_27
  have b_27 := F_27.binds (ps := ["self", "dwell", "most", "advances", "fuels"]) fun _ _ _ _ _ _ us hl => match us, hl with | [_, _, _, _, _], _ => rfl
  have F_28 := fun_mk (st := s_Engine_start) l_28 c_28 k_28
  have b_28 := F_28.binds (ps := ["self", "dwell", "most", "advances", "fuels"]) fun _ _ _ _ _ _ us hl => match us, hl with | [_, _, _, _, _], _ => rfl
  have F_29 := fun_mk (st := s_Engine_may_come) l_29 c_29 k_29
  have b_29 := F_29.binds (ps := ["self", "t"]) fun _ _ _ _ _ _ us hl => match us, hl with | [_, _], _ => rfl
  have F_30 := fun_mk (st := s_Engine_tooth) l_30 c_30 k_30
  have b_30 := F_30.binds (ps := ["self", "t"]) fun _ _ _ _ _ _ us hl => match us, hl with | [_, _], _ => rfl
  have F_31 := fun_mk (st := s_Engine_give_up_all) l_31 c_31 k_31
  have b_31 := F_31.binds (ps := ["self", "t"]) fun _ _ _ _ _ _ us hl => match us, hl with | [_, _], _ => rfl
  have F_32 := fun_mk (st := s_Engine_follow_all) l_32 c_32 k_32
  have b_32 := F_32.binds (ps := ["self", "moment"]) fun _ _ _ _ _ _ us hl => match us, hl with | [_, _], _ => rfl
  have F_33 := fun_mk (st := s_Engine_timing_at) l_33 c_33 k_33
  have b_33 := F_33.binds (ps := ["self", "speed"]) fun _ _ _ _ _ _ us hl => match us, hl with | [_, _], _ => rfl
  have F_34 := fun_mk (st := s_Engine_cam) l_34 c_34 k_34
  have b_34 := F_34.binds (ps := ["self"]) fun _ _ _ _ _ _ us hl => match us, hl with | [_], _ => rfl
  have F_35 := fun_mk (st := s_Engine_load) l_35 c_35 k_35
  have b_35 := F_35.binds (ps := ["self", "load"]) fun _ _ _ _ _ _ us hl => match us, hl with | [_, _], _ => rfl
  have F_36 := fun_mk (st := s_Engine_tick) l_36 c_36 k_36
  have b_36 := F_36.binds (ps := ["self", "t"]) fun _ _ _ _ _ _ us hl => match us, hl with | [_, _], _ => rfl
  have F_37 := fun_mk (st := s_Engine_state) l_37 c_37 k_37
  have b_37 := F_37.binds (ps := ["self"]) fun _ _ _ _ _ _ us hl => match us, hl with | [_], _ => rfl
  have F_38 := fun_mk (st := s_answers) l_38 c_38 k_38
  have b_38 := F_38.binds (ps := ["calls"]) fun _ _ _ _ _ _ us hl => match us, hl with | [_], _ => rfl
  have F_39 := fun_mk (st := s_call_length) l_39 c_39 k_39
  have b_39 := F_39.binds (ps := ["calls", "place"]) fun _ _ _ _ _ _ us hl => match us, hl with | [_, _], _ => rfl
  have F_40 := fun_mk (st := s_answer_call) l_40 c_40 k_40
  have b_40 := F_40.binds (ps := ["engine", "call"]) fun _ _ _ _ _ _ us hl => match us, hl with | [_, _], _ => rfl
  have e : f_38 = fa := by
    have q := (PySem.W.mg_of X G a_38).symm.trans hfa
    injection q with q
    injection q
  subst e
  have T : Txt K mg ⟨aCrank, aCylinder, aMoment, aTiming, aEngine, f_0, (PySem.W.fnOf "__init__" "Crank.__init__" (defArgs s_Crank___init__) (defBody s_Crank___init__) (defScope s_Crank___init__) .none kV_0 dc_0 pm_0 an_0 cd_0 ct_0), f_1, (PySem.W.fnOf "comes_behind" "Crank.comes_behind" (defArgs s_Crank_comes_behind) (defBody s_Crank_comes_behind) (defScope s_Crank_comes_behind) .none kV_1 dc_1 pm_1 an_1 cd_1 ct_1), f_2, (PySem.W.fnOf "pass_tooth" "Crank.pass_tooth" (defArgs s_Crank_pass_tooth) (defBody s_Crank_pass_tooth) (defScope s_Crank_pass_tooth) .none kV_2 dc_2 pm_2 an_2 cd_2 ct_2), f_3, (PySem.W.fnOf "stands_still" "Crank.stands_still" (defArgs s_Crank_stands_still) (defBody s_Crank_stands_still) (defScope s_Crank_stands_still) .none kV_3 dc_3 pm_3 an_3 cd_3 ct_3), f_4, (PySem.W.fnOf "interval_at" "Crank.interval_at" (defArgs s_Crank_interval_at) (defBody s_Crank_interval_at) (defScope s_Crank_interval_at) .none kV_4 dc_4 pm_4 an_4 cd_4 ct_4), f_5, (PySem.W.fnOf "is_gap" "Crank.is_gap" (defArgs s_Crank_is_gap) (defBody s_Crank_is_gap) (defScope s_Crank_is_gap) .none kV_5 dc_5 pm_5 an_5 cd_5 ct_5), f_6, (PySem.W.fnOf "move" "Crank.move" (defArgs s_Crank_move) (defBody s_Crank_move) (defScope s_Crank_move) .none kV_6 dc_6 pm_6 an_6 cd_6 ct_6), f_7, (PySem.W.fnOf "settle_turn" "Crank.settle_turn" (defArgs s_Crank_settle_turn) (defBody s_Crank_settle_turn) (defScope s_Crank_settle_turn) .none kV_7 dc_7 pm_7 an_7 cd_7 ct_7), f_8, (PySem.W.fnOf "turn_begun" "Crank.turn_begun" (defArgs s_Crank_turn_begun) (defBody s_Crank_turn_begun) (defScope s_Crank_turn_begun) .none kV_8 dc_8 pm_8 an_8 cd_8 ct_8), f_9, (PySem.W.fnOf "tell_cam" "Crank.tell_cam" (defArgs s_Crank_tell_cam) (defBody s_Crank_tell_cam) (defScope s_Crank_tell_cam) .none kV_9 dc_9 pm_9 an_9 cd_9 ct_9), f_10, (PySem.W.fnOf "is_sure" "Crank.is_sure" (defArgs s_Crank_is_sure) (defBody s_Crank_is_sure) (defScope s_Crank_is_sure) .none kV_10 dc_10 pm_10 an_10 cd_10 ct_10), f_11, (PySem.W.fnOf "is_known" "Crank.is_known" (defArgs s_Crank_is_known) (defBody s_Crank_is_known) (defScope s_Crank_is_known) .none kV_11 dc_11 pm_11 an_11 cd_11 ct_11), f_12, (PySem.W.fnOf "__init__" "Cylinder.__init__" (defArgs s_Cylinder___init__) (defBody s_Cylinder___init__) (defScope s_Cylinder___init__) .none kV_12 dc_12 pm_12 an_12 cd_12 ct_12), f_13, (PySem.W.fnOf "give_up" "Cylinder.give_up" (defArgs s_Cylinder_give_up) (defBody s_Cylinder_give_up) (defScope s_Cylinder_give_up) .none kV_13 dc_13 pm_13 an_13 cd_13 ct_13), f_14, (PySem.W.fnOf "follow" "Cylinder.follow" (defArgs s_Cylinder_follow) (defBody s_Cylinder_follow) (defScope s_Cylinder_follow) .none kV_14 dc_14 pm_14 an_14 cd_14 ct_14), f_15, (PySem.W.fnOf "rest" "Cylinder.rest" (defArgs s_Cylinder_rest) (defBody s_Cylinder_rest) (defScope s_Cylinder_rest) .none kV_15 dc_15 pm_15 an_15 cd_15 ct_15), f_16, (PySem.W.fnOf "go_on" "Cylinder.go_on" (defArgs s_Cylinder_go_on) (defBody s_Cylinder_go_on) (defScope s_Cylinder_go_on) .none kV_16 dc_16 pm_16 an_16 cd_16 ct_16), f_17, (PySem.W.fnOf "spark" "Cylinder.spark" (defArgs s_Cylinder_spark) (defBody s_Cylinder_spark) (defScope s_Cylinder_spark) .none kV_17 dc_17 pm_17 an_17 cd_17 ct_17), f_18, (PySem.W.fnOf "feed" "Cylinder.feed" (defArgs s_Cylinder_feed) (defBody s_Cylinder_feed) (defScope s_Cylinder_feed) .none kV_18 dc_18 pm_18 an_18 cd_18 ct_18), f_19, (PySem.W.fnOf "__init__" "Moment.__init__" (defArgs s_Moment___init__) (defBody s_Moment___init__) (defScope s_Moment___init__) .none kV_19 dc_19 pm_19 an_19 cd_19 ct_19), f_20, (PySem.W.fnOf "ahead" "Moment.ahead" (defArgs s_Moment_ahead) (defBody s_Moment_ahead) (defScope s_Moment_ahead) .none kV_20 dc_20 pm_20 an_20 cd_20 ct_20), f_21, (PySem.W.fnOf "time_of" "Moment.time_of" (defArgs s_Moment_time_of) (defBody s_Moment_time_of) (defScope s_Moment_time_of) .none kV_21 dc_21 pm_21 an_21 cd_21 ct_21), f_22, (PySem.W.fnOf "speed" "Moment.speed" (defArgs s_Moment_speed) (defBody s_Moment_speed) (defScope s_Moment_speed) .none kV_22 dc_22 pm_22 an_22 cd_22 ct_22), f_23, (PySem.W.fnOf "look_between" "look_between" (defArgs s_look_between) (defBody s_look_between) (defScope s_look_between) .none kV_23 dc_23 pm_23 an_23 cd_23 ct_23), f_24, (PySem.W.fnOf "share" "share" (defArgs s_share) (defBody s_share) (defScope s_share) .none kV_24 dc_24 pm_24 an_24 cd_24 ct_24), f_25, (PySem.W.fnOf "__init__" "Timing.__init__" (defArgs s_Timing___init__) (defBody s_Timing___init__) (defScope s_Timing___init__) .none kV_25 dc_25 pm_25 an_25 cd_25 ct_25), f_26, (PySem.W.fnOf "__init__" "Engine.__init__" (defArgs s_Engine___init__) (defBody s_Engine___init__) (defScope s_Engine___init__) .none kV_26 dc_26 pm_26 an_26 cd_26 ct_26), f_27, (PySem.W.fnOf "begin" "Engine.begin" (defArgs s_Engine_begin) (defBody s_Engine_begin) (defScope s_Engine_begin) .none kV_27 dc_27 pm_27 an_27 cd_27 ct_27), f_28, (PySem.W.fnOf "start" "Engine.start" (defArgs s_Engine_start) (defBody s_Engine_start) (defScope s_Engine_start) .none kV_28 dc_28 pm_28 an_28 cd_28 ct_28), f_29, (PySem.W.fnOf "may_come" "Engine.may_come" (defArgs s_Engine_may_come) (defBody s_Engine_may_come) (defScope s_Engine_may_come) .none kV_29 dc_29 pm_29 an_29 cd_29 ct_29), f_30, (PySem.W.fnOf "tooth" "Engine.tooth" (defArgs s_Engine_tooth) (defBody s_Engine_tooth) (defScope s_Engine_tooth) .none kV_30 dc_30 pm_30 an_30 cd_30 ct_30), f_31, (PySem.W.fnOf "give_up_all" "Engine.give_up_all" (defArgs s_Engine_give_up_all) (defBody s_Engine_give_up_all) (defScope s_Engine_give_up_all) .none kV_31 dc_31 pm_31 an_31 cd_31 ct_31), f_32, (PySem.W.fnOf "follow_all" "Engine.follow_all" (defArgs s_Engine_follow_all) (defBody s_Engine_follow_all) (defScope s_Engine_follow_all) .none kV_32 dc_32 pm_32 an_32 cd_32 ct_32), f_33, (PySem.W.fnOf "timing_at" "Engine.timing_at" (defArgs s_Engine_timing_at) (defBody s_Engine_timing_at) (defScope s_Engine_timing_at) .none kV_33 dc_33 pm_33 an_33 cd_33 ct_33), f_34, (PySem.W.fnOf "cam" "Engine.cam" (defArgs s_Engine_cam) (defBody s_Engine_cam) (defScope s_Engine_cam) .none kV_34 dc_34 pm_34 an_34 cd_34 ct_34), f_35, (PySem.W.fnOf "load" "Engine.load" (defArgs s_Engine_load) (defBody s_Engine_load) (defScope s_Engine_load) .none kV_35 dc_35 pm_35 an_35 cd_35 ct_35), f_36, (PySem.W.fnOf "tick" "Engine.tick" (defArgs s_Engine_tick) (defBody s_Engine_tick) (defScope s_Engine_tick) .none kV_36 dc_36 pm_36 an_36 cd_36 ct_36), f_37, (PySem.W.fnOf "state" "Engine.state" (defArgs s_Engine_state) (defBody s_Engine_state) (defScope s_Engine_state) .none kV_37 dc_37 pm_37 an_37 cd_37 ct_37), f_38, (PySem.W.fnOf "answers" "answers" (defArgs s_answers) (defBody s_answers) (defScope s_answers) .none kV_38 dc_38 pm_38 an_38 cd_38 ct_38), f_39, (PySem.W.fnOf "call_length" "call_length" (defArgs s_call_length) (defBody s_call_length) (defScope s_call_length) .none kV_39 dc_39 pm_39 an_39 cd_39 ct_39), f_40, (PySem.W.fnOf "answer_call" "answer_call" (defArgs s_answer_call) (defBody s_answer_call) (defScope s_answer_call) .none kV_40 dc_40 pm_40 an_40 cd_40 ct_40)⟩ := ⟨⟨_, PySem.W.mg_of X G g_LONGEST_INTERVAL⟩,
    ⟨_, PySem.W.mg_of X G g_LAST_TOOTH⟩,
    ⟨_, PySem.W.mg_of X G g_UNKNOWN⟩,
    ⟨_, PySem.W.mg_of X G g_PERHAPS⟩,
    ⟨_, PySem.W.mg_of X G g_SURELY⟩,
    ⟨_, PySem.W.mg_of X G g_COIL_ON⟩,
    ⟨_, PySem.W.mg_of X G g_SPARK⟩,
    ⟨_, PySem.W.mg_of X G g_SOFT_OFF⟩,
    ⟨_, PySem.W.mg_of X G g_VALVE_OPENS⟩,
    ⟨_, PySem.W.mg_of X G g_VALVE_CLOSES⟩,
    ⟨_, PySem.W.mg_of X G g_IDLE⟩,
    ⟨_, PySem.W.mg_of X G g_ON⟩,
    ⟨_, PySem.W.mg_of X G g_DONE⟩,
    ⟨_, PySem.W.mg_of X G g_QUARTER⟩,
    ⟨_, PySem.W.mg_of X G g_HALF⟩,
    ⟨_, PySem.W.mg_of X G g_SPARK_BASE⟩,
    ⟨_, PySem.W.mg_of X G g_VALVE_BASE⟩,
    ⟨_, PySem.W.mg_of X G g_PLACES⟩,
    ⟨_, PySem.W.mg_of X G g_PLACE⟩,
    ⟨_, PySem.W.mg_of X G g_CYCLE⟩,
    ⟨_, PySem.W.mg_of X G g_SPEED_OF_ONE⟩,
    ⟨_, PySem.W.mg_of X G g_TOP_SPEED⟩,
    ⟨_, PySem.W.mg_of X G g_SIDE⟩,
    ⟨_, PySem.W.mg_of X G g_STEP⟩,
    ⟨_, PySem.W.mg_of X G g_LAST⟩,
    ⟨_, PySem.W.mg_of X G g_REFUSED⟩,
    ⟨_, PySem.W.mg_of X G g_CYLINDERS⟩,
    ⟨_, PySem.W.mg_of X G g_LONGEST_MOST⟩,
    ⟨_, PySem.W.mg_of X G g_MOST_ADVANCE⟩,
    ⟨_, PySem.W.mg_of X G g_MOST_LOAD⟩,
    ⟨_, PySem.W.mg_of X G g_TIMES_END⟩,
    ⟨_, PySem.W.mg_of X G g_TOOTH_NOT_KNOWN⟩,
    ⟨_, PySem.W.mg_of X G g_TURN_NOT_KNOWN⟩,
    ⟨_, PySem.W.mg_of X G g_START⟩,
    ⟨_, PySem.W.mg_of X G g_TOOTH⟩,
    ⟨_, PySem.W.mg_of X G g_CAM⟩,
    ⟨_, PySem.W.mg_of X G g_LOAD⟩,
    ⟨_, PySem.W.mg_of X G g_TICK⟩,
    ⟨_, PySem.W.mg_of X G g_STATE⟩,
    PySem.W.mg_none_of X G n_max,
    PySem.W.mg_none_of X G n_min,
    PySem.W.mg_none_of X G n_len,
    PySem.W.mg_none_of X G n_range,
    ⟨pg_Crank, hd_Crank, po_Crank, sa_Crank⟩,
    ⟨mk_Crank, a_0, i_0, kc_Crank⟩,
    PySem.W.mg_of X G a_Crank,
    nf_Crank_last_time,
    nf_Crank_interval,
    nf_Crank_certainty,
    nf_Crank_place,
    nf_Crank_turn,
    nf_Crank_cam_told,
    ⟨pg_Cylinder, hd_Cylinder, po_Cylinder, sa_Cylinder⟩,
    ⟨mk_Cylinder, a_12, i_12, kc_Cylinder⟩,
    PySem.W.mg_of X G a_Cylinder,
    nf_Cylinder_number,
    nf_Cylinder_phase,
    nf_Cylinder_went_on,
    nf_Cylinder_off,
    ⟨pg_Moment, hd_Moment, po_Moment, sa_Moment⟩,
    ⟨mk_Moment, a_19, i_19, kc_Moment⟩,
    PySem.W.mg_of X G a_Moment,
    nf_Moment_now,
    nf_Moment_position,
    nf_Moment_pace,
    nf_Moment_span,
    ⟨pg_Timing, hd_Timing, po_Timing, sa_Timing⟩,
    ⟨mk_Timing, a_25, i_25, kc_Timing⟩,
    PySem.W.mg_of X G a_Timing,
    nf_Timing_dwell,
    nf_Timing_most,
    nf_Timing_advance,
    nf_Timing_fuel,
    ⟨pg_Engine, hd_Engine, po_Engine, sa_Engine⟩,
    ⟨mk_Engine, a_26, i_26, kc_Engine⟩,
    PySem.W.mg_of X G a_Engine,
    nf_Engine_dwell,
    nf_Engine_most,
    nf_Engine_advances,
    nf_Engine_fuels,
    nf_Engine_load_now,
    nf_Engine_crank,
    nf_Engine_cylinders,
    ⟨F_0, b_0, ⟨a_0, i_0, k_0⟩⟩,
    ⟨F_1, b_1, ⟨a_1, i_1, k_1⟩⟩,
    ⟨F_2, b_2, ⟨a_2, i_2, k_2⟩⟩,
    ⟨F_3, b_3, ⟨a_3, i_3, k_3⟩⟩,
    ⟨F_4, b_4, ⟨a_4, i_4, k_4⟩⟩,
    ⟨F_5, b_5, ⟨a_5, i_5, k_5⟩⟩,
    ⟨F_6, b_6, ⟨a_6, i_6, k_6⟩⟩,
    ⟨F_7, b_7, ⟨a_7, i_7, k_7⟩⟩,
    ⟨F_8, b_8, ⟨a_8, i_8, k_8⟩⟩,
    ⟨F_9, b_9, ⟨a_9, i_9, k_9⟩⟩,
    ⟨F_10, b_10, ⟨a_10, i_10, k_10⟩⟩,
    ⟨F_11, b_11, ⟨a_11, i_11, k_11⟩⟩,
    ⟨F_12, b_12, ⟨a_12, i_12, k_12⟩⟩,
    ⟨F_13, b_13, ⟨a_13, i_13, k_13⟩⟩,
    ⟨F_14, b_14, ⟨a_14, i_14, k_14⟩⟩,
    ⟨F_15, b_15, ⟨a_15, i_15, k_15⟩⟩,
    ⟨F_16, b_16, ⟨a_16, i_16, k_16⟩⟩,
    ⟨F_17, b_17, ⟨a_17, i_17, k_17⟩⟩,
    ⟨F_18, b_18, ⟨a_18, i_18, k_18⟩⟩,
    ⟨F_19, b_19, ⟨a_19, i_19, k_19⟩⟩,
    ⟨F_20, b_20, ⟨a_20, i_20, k_20⟩⟩,
    ⟨F_21, b_21, ⟨a_21, i_21, k_21⟩⟩,
    ⟨F_22, b_22, ⟨a_22, i_22, k_22⟩⟩,
    F_23,
    b_23,
    PySem.W.mg_of X G a_23,
    k_23,
    F_24,
    b_24,
    PySem.W.mg_of X G a_24,
    k_24,
    ⟨F_25, b_25, ⟨a_25, i_25, k_25⟩⟩,
    ⟨F_26, b_26, ⟨a_26, i_26, k_26⟩⟩,
    ⟨F_27, b_27, ⟨a_27, i_27, k_27⟩⟩,
    ⟨F_28, b_28, ⟨a_28, i_28, k_28⟩⟩,
    ⟨F_29, b_29, ⟨a_29, i_29, k_29⟩⟩,
    ⟨F_30, b_30, ⟨a_30, i_30, k_30⟩⟩,
    ⟨F_31, b_31, ⟨a_31, i_31, k_31⟩⟩,
    ⟨F_32, b_32, ⟨a_32, i_32, k_32⟩⟩,
    ⟨F_33, b_33, ⟨a_33, i_33, k_33⟩⟩,
    ⟨F_34, b_34, ⟨a_34, i_34, k_34⟩⟩,
    ⟨F_35, b_35, ⟨a_35, i_35, k_35⟩⟩,
    ⟨F_36, b_36, ⟨a_36, i_36, k_36⟩⟩,
    ⟨F_37, b_37, ⟨a_37, i_37, k_37⟩⟩,
    F_38,
    b_38,
    PySem.W.mg_of X G a_38,
    k_38,
    F_39,
    b_39,
    PySem.W.mg_of X G a_39,
    k_39,
    F_40,
    b_40,
    PySem.W.mg_of X G a_40,
    k_40⟩
  exact ⟨_, fun s us hu => match us, hu with | [_], _ => .of_eq rfl, fun base _ _ => ok_answers T⟩
end Et
/-! Names that the head would give to rewritten copies of its nine largest heaps (the number is the hash of the heap's own name); the equations with these copies are most of a compiled text's size. Where the name is taken, the head goes on with the heap as it stands. -/
def PySem.W.Fast.tw14546045086135786612 : Nat := 0
def PySem.W.Fast.tw18009387367078874926 : Nat := 0
def PySem.W.Fast.tw1207608149500293598 : Nat := 0
def PySem.W.Fast.tw14603809946533590423 : Nat := 0
def PySem.W.Fast.tw9796156146324387329 : Nat := 0
def PySem.W.Fast.tw10549480036924849829 : Nat := 0
def PySem.W.Fast.tw8626299345444912070 : Nat := 0
def PySem.W.Fast.tw4681268868588481031 : Nat := 0
def PySem.W.Fast.tw15031520495509367530 : Nat := 0
open PySem PySem.W PyProof.Rows
set_option maxRecDepth 100000 in
set_option maxHeartbeats 0 in
theorem PySem.Challenge.cw_enginetimes_s01_answers_holds : PySem.Challenge.rw_enginetimes_s01_answers.Holds := by
  w_on; k_headS; (case hw => exact ⟨[.list ((0 :: 0 :: 0 :: 256 :: (List.replicate 256 0 ++ 256 :: List.replicate 256 0)).map WData.int)], by decide +kernel, by decide +kernel⟩)
  k_fillS
  refine L2.walk_specK (r := PySem.Challenge.rw_enginetimes_s01_answers) (k := 7) (CX := L2.CX0) (ps := ["calls"]) (sp := Et.sp_answers0) (by decide +kernel) rfl rfl ⟨rfl, by decide, by decide⟩ (fun w h Y => PySem.W.kIn_of Y) ?F ?S (fun _ _ _ _ z => z)
  case F =>
    intro w mg fa h Y KX G hmg
    refine' Et.all_mk KX G hmg ?g_LONGEST_INTERVAL ?g_LAST_TOOTH ?g_UNKNOWN ?g_PERHAPS ?g_SURELY ?g_COIL_ON ?g_SPARK ?g_SOFT_OFF ?g_VALVE_OPENS ?g_VALVE_CLOSES ?g_IDLE ?g_ON ?g_DONE ?g_QUARTER ?g_HALF ?g_SPARK_BASE ?g_VALVE_BASE ?g_PLACES ?g_PLACE ?g_CYCLE ?g_SPEED_OF_ONE ?g_TOP_SPEED ?g_SIDE ?g_STEP ?g_LAST ?g_REFUSED ?g_CYLINDERS ?g_LONGEST_MOST ?g_MOST_ADVANCE ?g_MOST_LOAD ?g_TIMES_END ?g_TOOTH_NOT_KNOWN ?g_TURN_NOT_KNOWN ?g_START ?g_TOOTH ?g_CAM ?g_LOAD ?g_TICK ?g_STATE ?n_max ?n_min ?n_len ?n_range ?a_Crank ?pg_Crank ?hd_Crank ?po_Crank ?sa_Crank ?mk_Crank ?kc_Crank ?nf_Crank_last_time ?nf_Crank_interval ?nf_Crank_certainty ?nf_Crank_place ?nf_Crank_turn ?nf_Crank_cam_told ?a_Cylinder ?pg_Cylinder ?hd_Cylinder ?po_Cylinder ?sa_Cylinder ?mk_Cylinder ?kc_Cylinder ?nf_Cylinder_number ?nf_Cylinder_phase ?nf_Cylinder_went_on ?nf_Cylinder_off ?a_Moment ?pg_Moment ?hd_Moment ?po_Moment ?sa_Moment ?mk_Moment ?kc_Moment ?nf_Moment_now ?nf_Moment_position ?nf_Moment_pace ?nf_Moment_span ?a_Timing ?pg_Timing ?hd_Timing ?po_Timing ?sa_Timing ?mk_Timing ?kc_Timing ?nf_Timing_dwell ?nf_Timing_most ?nf_Timing_advance ?nf_Timing_fuel ?a_Engine ?pg_Engine ?hd_Engine ?po_Engine ?sa_Engine ?mk_Engine ?kc_Engine ?nf_Engine_dwell ?nf_Engine_most ?nf_Engine_advances ?nf_Engine_fuels ?nf_Engine_load_now ?nf_Engine_crank ?nf_Engine_cylinders ?a_0 ?i_0 ?l_0 ?c_0 ?k_0 ?a_1 ?i_1 ?l_1 ?c_1 ?k_1 ?a_2 ?i_2 ?l_2 ?c_2 ?k_2 ?a_3 ?i_3 ?l_3 ?c_3 ?k_3 ?a_4 ?i_4 ?l_4 ?c_4 ?k_4 ?a_5 ?i_5 ?l_5 ?c_5 ?k_5 ?a_6 ?i_6 ?l_6 ?c_6 ?k_6 ?a_7 ?i_7 ?l_7 ?c_7 ?k_7 ?a_8 ?i_8 ?l_8 ?c_8 ?k_8 ?a_9 ?i_9 ?l_9 ?c_9 ?k_9 ?a_10 ?i_10 ?l_10 ?c_10 ?k_10 ?a_11 ?i_11 ?l_11 ?c_11 ?k_11 ?a_12 ?i_12 ?l_12 ?c_12 ?k_12 ?a_13 ?i_13 ?l_13 ?c_13 ?k_13 ?a_14 ?i_14 ?l_14 ?c_14 ?k_14 ?a_15 ?i_15 ?l_15 ?c_15 ?k_15 ?a_16 ?i_16 ?l_16 ?c_16 ?k_16 ?a_17 ?i_17 ?l_17 ?c_17 ?k_17 ?a_18 ?i_18 ?l_18 ?c_18 ?k_18 ?a_19 ?i_19 ?l_19 ?c_19 ?k_19 ?a_20 ?i_20 ?l_20 ?c_20 ?k_20 ?a_21 ?i_21 ?l_21 ?c_21 ?k_21 ?a_22 ?i_22 ?l_22 ?c_22 ?k_22 ?a_23 ?l_23 ?c_23 ?k_23 ?a_24 ?l_24 ?c_24 ?k_24 ?a_25 ?i_25 ?l_25 ?c_25 ?k_25 ?a_26 ?i_26 ?l_26 ?c_26 ?k_26 ?a_27 ?i_27 ?l_27 ?c_27 ?k_27 ?a_28 ?i_28 ?l_28 ?c_28 ?k_28 ?a_29 ?i_29 ?l_29 ?c_29 ?k_29 ?a_30 ?i_30 ?l_30 ?c_30 ?k_30 ?a_31 ?i_31 ?l_31 ?c_31 ?k_31 ?a_32 ?i_32 ?l_32 ?c_32 ?k_32 ?a_33 ?i_33 ?l_33 ?c_33 ?k_33 ?a_34 ?i_34 ?l_34 ?c_34 ?k_34 ?a_35 ?i_35 ?l_35 ?c_35 ?k_35 ?a_36 ?i_36 ?l_36 ?c_36 ?k_36 ?a_37 ?i_37 ?l_37 ?c_37 ?k_37 ?a_38 ?l_38 ?c_38 ?k_38 ?a_39 ?l_39 ?c_39 ?k_39 ?a_40 ?l_40 ?c_40 ?k_40
    (case g_LONGEST_INTERVAL => k_is); (case g_LAST_TOOTH => k_is); (case g_UNKNOWN => k_is); (case g_PERHAPS => k_is); (case g_SURELY => k_is); (case g_COIL_ON => k_is)
    (case g_SPARK => k_is); (case g_SOFT_OFF => k_is); (case g_VALVE_OPENS => k_is); (case g_VALVE_CLOSES => k_is); (case g_IDLE => k_is); (case g_ON => k_is)
    (case g_DONE => k_is); (case g_QUARTER => k_is); (case g_HALF => k_is); (case g_SPARK_BASE => k_is); (case g_VALVE_BASE => k_is); (case g_PLACES => k_is)
    (case g_PLACE => k_is); (case g_CYCLE => k_is); (case g_SPEED_OF_ONE => k_is); (case g_TOP_SPEED => k_is); (case g_SIDE => k_is); (case g_STEP => k_is)
    (case g_LAST => k_is); (case g_REFUSED => k_is); (case g_CYLINDERS => k_is); (case g_LONGEST_MOST => k_is); (case g_MOST_ADVANCE => k_is); (case g_MOST_LOAD => k_is)
    (case g_TIMES_END => k_is); (case g_TOOTH_NOT_KNOWN => k_is); (case g_TURN_NOT_KNOWN => k_is); (case g_START => k_is); (case g_TOOTH => k_is); (case g_CAM => k_is)
    (case g_LOAD => k_is); (case g_TICK => k_is); (case g_STATE => k_is); (case n_max => k_is); (case n_min => k_is); (case n_len => k_is)
    (case n_range => k_is); (case a_Crank => k_is); (case pg_Crank => k_is); (case hd_Crank => k_is); (case po_Crank => k_is); (case sa_Crank => k_is)
    (case mk_Crank => k_is); (case kc_Crank => k_is); (case nf_Crank_last_time => k_is); (case nf_Crank_interval => k_is); (case nf_Crank_certainty => k_is); (case nf_Crank_place => k_is)
    (case nf_Crank_turn => k_is); (case nf_Crank_cam_told => k_is); (case a_Cylinder => k_is); (case pg_Cylinder => k_is); (case hd_Cylinder => k_is); (case po_Cylinder => k_is)
    (case sa_Cylinder => k_is); (case mk_Cylinder => k_is); (case kc_Cylinder => k_is); (case nf_Cylinder_number => k_is); (case nf_Cylinder_phase => k_is); (case nf_Cylinder_went_on => k_is)
    (case nf_Cylinder_off => k_is); (case a_Moment => k_is); (case pg_Moment => k_is); (case hd_Moment => k_is); (case po_Moment => k_is); (case sa_Moment => k_is)
    (case mk_Moment => k_is); (case kc_Moment => k_is); (case nf_Moment_now => k_is); (case nf_Moment_position => k_is); (case nf_Moment_pace => k_is); (case nf_Moment_span => k_is)
    (case a_Timing => k_is); (case pg_Timing => k_is); (case hd_Timing => k_is); (case po_Timing => k_is); (case sa_Timing => k_is); (case mk_Timing => k_is)
    (case kc_Timing => k_is); (case nf_Timing_dwell => k_is); (case nf_Timing_most => k_is); (case nf_Timing_advance => k_is); (case nf_Timing_fuel => k_is); (case a_Engine => k_is)
    (case pg_Engine => k_is); (case hd_Engine => k_is); (case po_Engine => k_is); (case sa_Engine => k_is); (case mk_Engine => k_is); (case kc_Engine => k_is)
    (case nf_Engine_dwell => k_is); (case nf_Engine_most => k_is); (case nf_Engine_advances => k_is); (case nf_Engine_fuels => k_is); (case nf_Engine_load_now => k_is); (case nf_Engine_crank => k_is)
    (case nf_Engine_cylinders => k_is); (case a_0 => k_is); (case i_0 => k_is); (case l_0 => k_is); (case c_0 => k_is); (case k_0 => k_is)
    (case a_1 => k_is); (case i_1 => k_is); (case l_1 => k_is); (case c_1 => k_is); (case k_1 => k_is); (case a_2 => k_is)
    (case i_2 => k_is); (case l_2 => k_is); (case c_2 => k_is); (case k_2 => k_is); (case a_3 => k_is); (case i_3 => k_is)
    (case l_3 => k_is); (case c_3 => k_is); (case k_3 => k_is); (case a_4 => k_is); (case i_4 => k_is); (case l_4 => k_is)
    (case c_4 => k_is); (case k_4 => k_is); (case a_5 => k_is); (case i_5 => k_is); (case l_5 => k_is); (case c_5 => k_is)
    (case k_5 => k_is); (case a_6 => k_is); (case i_6 => k_is); (case l_6 => k_is); (case c_6 => k_is); (case k_6 => k_is)
    (case a_7 => k_is); (case i_7 => k_is); (case l_7 => k_is); (case c_7 => k_is); (case k_7 => k_is); (case a_8 => k_is)
    (case i_8 => k_is); (case l_8 => k_is); (case c_8 => k_is); (case k_8 => k_is); (case a_9 => k_is); (case i_9 => k_is)
    (case l_9 => k_is); (case c_9 => k_is); (case k_9 => k_is); (case a_10 => k_is); (case i_10 => k_is); (case l_10 => k_is)
    (case c_10 => k_is); (case k_10 => k_is); (case a_11 => k_is); (case i_11 => k_is); (case l_11 => k_is); (case c_11 => k_is)
    (case k_11 => k_is); (case a_12 => k_is); (case i_12 => k_is); (case l_12 => k_is); (case c_12 => k_is); (case k_12 => k_is)
    (case a_13 => k_is); (case i_13 => k_is); (case l_13 => k_is); (case c_13 => k_is); (case k_13 => k_is); (case a_14 => k_is)
    (case i_14 => k_is); (case l_14 => k_is); (case c_14 => k_is); (case k_14 => k_is); (case a_15 => k_is); (case i_15 => k_is)
    (case l_15 => k_is); (case c_15 => k_is); (case k_15 => k_is); (case a_16 => k_is); (case i_16 => k_is); (case l_16 => k_is)
    (case c_16 => k_is); (case k_16 => k_is); (case a_17 => k_is); (case i_17 => k_is); (case l_17 => k_is); (case c_17 => k_is)
    (case k_17 => k_is); (case a_18 => k_is); (case i_18 => k_is); (case l_18 => k_is); (case c_18 => k_is); (case k_18 => k_is)
    (case a_19 => k_is); (case i_19 => k_is); (case l_19 => k_is); (case c_19 => k_is); (case k_19 => k_is); (case a_20 => k_is)
    (case i_20 => k_is); (case l_20 => k_is); (case c_20 => k_is); (case k_20 => k_is); (case a_21 => k_is); (case i_21 => k_is)
    (case l_21 => k_is); (case c_21 => k_is); (case k_21 => k_is); (case a_22 => k_is); (case i_22 => k_is); (case l_22 => k_is)
    (case c_22 => k_is); (case k_22 => k_is); (case a_23 => k_is); (case l_23 => k_is); (case c_23 => k_is); (case k_23 => k_is)
    (case a_24 => k_is); (case l_24 => k_is); (case c_24 => k_is); (case k_24 => k_is); (case a_25 => k_is); (case i_25 => k_is)
    (case l_25 => k_is); (case c_25 => k_is); (case k_25 => k_is); (case a_26 => k_is); (case i_26 => k_is); (case l_26 => k_is)
    (case c_26 => k_is); (case k_26 => k_is); (case a_27 => k_is); (case i_27 => k_is); (case l_27 => k_is); (case c_27 => k_is)
    (case k_27 => k_is); (case a_28 => k_is); (case i_28 => k_is); (case l_28 => k_is); (case c_28 => k_is); (case k_28 => k_is)
    (case a_29 => k_is); (case i_29 => k_is); (case l_29 => k_is); (case c_29 => k_is); (case k_29 => k_is); (case a_30 => k_is)
    (case i_30 => k_is); (case l_30 => k_is); (case c_30 => k_is); (case k_30 => k_is); (case a_31 => k_is); (case i_31 => k_is)
    (case l_31 => k_is); (case c_31 => k_is); (case k_31 => k_is); (case a_32 => k_is); (case i_32 => k_is); (case l_32 => k_is)
    (case c_32 => k_is); (case k_32 => k_is); (case a_33 => k_is); (case i_33 => k_is); (case l_33 => k_is); (case c_33 => k_is)
    (case k_33 => k_is); (case a_34 => k_is); (case i_34 => k_is); (case l_34 => k_is); (case c_34 => k_is); (case k_34 => k_is)
    (case a_35 => k_is); (case i_35 => k_is); (case l_35 => k_is); (case c_35 => k_is); (case k_35 => k_is); (case a_36 => k_is)
    (case i_36 => k_is); (case l_36 => k_is); (case c_36 => k_is); (case k_36 => k_is); (case a_37 => k_is); (case i_37 => k_is)
    (case l_37 => k_is); (case c_37 => k_is); (case k_37 => k_is); (case a_38 => k_is); (case l_38 => k_is); (case c_38 => k_is)
    (case k_38 => k_is); (case a_39 => k_is); (case l_39 => k_is); (case c_39 => k_is); (case k_39 => k_is); (case a_40 => k_is)
    (case l_40 => k_is); (case c_40 => k_is); (case k_40 => k_is)
  case S =>
    intro K H xs a hO hwi hask hx
    cases hx with
    | cons h1 h2 =>
      cases h2
      cases h1 with
      | lst hs ha =>
        have e := L2.ints_dw a.1 _ ha
        subst e
        exact ⟨_, a.1, rfl, hs, hask, fun H' p hp => .lst (L2.SqL.of hp) (L2.dw_ints _)⟩
#print axioms PySem.Challenge.cw_enginetimes_s01_answers_holds
