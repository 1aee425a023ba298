import PyProof.Rows.All
import Wide.All
import OpenK.AllK
import Wide.FinOn
import PyProof.EqAt
import PyProof.EqKinds
import PyProof.TupleCall
import KE.BitLaws
import Open.SpecLaws
import KE.OsHead
import KE.OsGo
import PySem.Challenge.RW_coconutheaps_s01_answers
section
set_option Elab.async false
set_option linter.all false
set_option maxRecDepth 100000
/-! THE HAND LAYER, for ints, bools, texts, own classes, lists, tuples, dicts, comprehensions, walks over dicts, enumerate, zip, reversed, texts, calls, loops. Paste it whole ahead of your own text; what your proof does not reach may be deleted. -/
namespace L2
open PySem PySem.Spec PyProof.Rows

/-- a key: an int or a str -/
abbrev Key := Sum Int Str
def keyIs : Key → Value → Bool
  | .inl k, v => Value.isInt k v
  | .inr x, v => Value.isStrOf x v
def keyH (w : World) : Key → Int
  | .inl k => hashInt k
  | .inr x => hashStr w x
theorem keyIs_shape : ∀ {k : Key} {v : Value}, keyIs k v = true → (∃ i t, k = Sum.inl i ∧ v = Value.int i t) ∨ (∃ x t, k = Sum.inr x ∧ v = Value.str x t)
  | .inl i, v, h => by
    obtain ⟨t, e⟩ := Value.isInt_shape (k := i) (v := v) h
    exact .inl ⟨i, t, rfl, e⟩
  | .inr x, v, h => by
    obtain ⟨t, e⟩ := Value.isStrOf_shape (x := x) (v := v) h
    exact .inr ⟨x, t, rfl, e⟩
theorem key_ll (a b : Int) : decide ((Sum.inl a : Key) = Sum.inl b) = (a == b) := by
  by_cases e : a = b
  · subst e; simp
  · have h : ¬ (Sum.inl a : Key) = Sum.inl b := fun q => e (Sum.inl.inj q)
    rw [decide_eq_false h]
    exact (beq_eq_false_iff_ne.mpr e).symm
theorem key_rr (a b : Str) : decide ((Sum.inr a : Key) = Sum.inr b) = decide (a = b) := by
  by_cases e : a = b
  · subst e; simp
  · have h : ¬ (Sum.inr a : Key) = Sum.inr b := fun q => e (Sum.inr.inj q)
    rw [decide_eq_false h, decide_eq_false e]
theorem key_lr (a : Int) (b : Str) : decide ((Sum.inl a : Key) = Sum.inr b) = false := decide_eq_false (fun q => nomatch q)
theorem key_rl (a : Str) (b : Int) : decide ((Sum.inr a : Key) = Sum.inl b) = false := decide_eq_false (fun q => nomatch q)

def mixKind (prog : Program) (w : World) : PySem.KeyKind prog w Key where
  is := keyIs
  hash := keyH w
  inj := fun v a b ha hb => by
    rcases keyIs_shape ha with ⟨i, t, rfl, rfl⟩ | ⟨x, t, rfl, rfl⟩
    · rcases keyIs_shape hb with ⟨j, u, rfl, e⟩ | ⟨y, u, rfl, e⟩
      · injection e with e1 _; rw [e1]
      · exact nomatch e
    · rcases keyIs_shape hb with ⟨j, u, rfl, e⟩ | ⟨y, u, rfl, e⟩
      · exact nomatch e
      · injection e with e1 _; rw [e1]
  byValue := fun k v h => by
    rcases keyIs_shape h with ⟨i, t, rfl, rfl⟩ | ⟨x, t, rfl, rfl⟩ <;> rfl
  pyHash := fun hv h => by
    rcases keyIs_shape hv with ⟨i, t, rfl, rfl⟩ | ⟨x, t, rfl, rfl⟩
    · exact wpAny_pyHash_int h
    · exact wpAny_pyHash_str h
  eqBool := fun hu hv h => by
    rcases keyIs_shape hu with ⟨i, t, rfl, rfl⟩ | ⟨x, t, rfl, rfl⟩
    · rcases keyIs_shape hv with ⟨j, u, rfl, rfl⟩ | ⟨y, u, rfl, rfl⟩
      · rw [key_ll] at h; exact wpAny_eqBool_int h
      · rw [key_lr] at h; exact SeqAt.EqAt.int_str i t y u _ _ _ _ h
    · rcases keyIs_shape hv with ⟨j, u, rfl, rfl⟩ | ⟨y, u, rfl, rfl⟩
      · rw [key_rl] at h; exact SeqAt.EqAt.str_int x t j u _ _ _ _ h
      · rw [key_rr] at h; exact wpAny_eqBool_str h
  «strs» := fun k x t v h => by
    rcases keyIs_shape h with ⟨i, u, rfl, e⟩ | ⟨y, u, rfl, e⟩
    · exact nomatch e
    · injection e with e1 _
      subst e1
      cases v <;> rfl

end L2

namespace L2
open PySem PySem.Spec PyProof.Rows

/-- a value, without the heap -/
inductive V where
  | non | bl (b : Bool) | int (i : Int) | str (x : Str) | byt (b : Array UInt8) | flt (b : UInt64) | ref (a : Addr) | ty (n : String)
  deriving DecidableEq

def RelV : V → Value → Prop
  | .non, u => u = Value.none
  | .bl b, u => u = Value.bool b
  | .int i, u => ∃ t, u = Value.int i t
  | .str x, u => ∃ t, u = Value.str x t
  | .byt b, u => ∃ t, u = Value.bytes b t
  | .flt b, u => ∃ t, u = Value.float b t
  | .ref a, u => u = Value.ref a
  | .ty n, u => u = Value.type n

abbrev Vals : List V → List Value → Prop := Paired RelV
theorem Vals.length {xs : List V} {us : List Value} (r : Vals xs us) : xs.length = us.length := Paired.length r
theorem Vals.get : ∀ {xs : List V} {us : List Value} {i : Nat} {x : V}, Vals xs us → xs[i]? = some x → ∃ u, us[i]? = some u ∧ RelV x u
  | _, _, _, _, .nil, e => by simp at e
  | _, _, 0, _, .cons r _, e => by simp at e; subst e; exact ⟨_, rfl, r⟩
  | _, _, i + 1, x, .cons _ t, e => by
    obtain ⟨u, h1, h2⟩ := Vals.get (i := i) (x := x) t (by simpa using e)
    exact ⟨u, by simpa using h1, h2⟩
theorem Vals.append : ∀ {xs ys : List V} {us ws : List Value}, Vals xs us → Vals ys ws → Vals (xs ++ ys) (us ++ ws)
  | _, _, _, _, .nil, s => s
  | _, _, _, _, .cons r t, s => .cons r (Vals.append t s)
theorem Vals.take : ∀ {xs : List V} {us : List Value} (n : Nat), Vals xs us → Vals (xs.take n) (us.take n)
  | _, _, 0, _ => .nil
  | _, _, _ + 1, .nil => .nil
  | _, _, n + 1, .cons r t => .cons r (Vals.take n t)
theorem Vals.drop : ∀ {xs : List V} {us : List Value} (n : Nat), Vals xs us → Vals (xs.drop n) (us.drop n)
  | _, _, 0, r => r
  | _, _, _ + 1, .nil => .nil
  | _, _, n + 1, .cons _ t => Vals.drop n t
def RelO : Option V → Option Value → Prop
  | some v, some u => RelV v u
  | none, none => True
  | _, _ => False
def KV {κ : Type} : List (κ × V) → List (κ × Value) → Prop := Paired fun (p : κ × V) (q : κ × Value) => p.1 = q.1 ∧ RelV p.2 q.2

/-- a key of a dict (00_mix): an int or a text -/
def kV : Key → V
  | .inl i => .int i
  | .inr x => .str x

/-- what stands at a tracked address -/
inductive HO where
  /-- a list -/
  | lst (xs : List V)
  /-- a tuple (never changes) -/
  | tup (xs : List V)
  /-- a dict whose keys are ints and texts; one whose keys are tuples of ints and texts (the empty one is both) -/
  | dK (kvs : List (Key × V)) | dT (kvs : List (List Key × V))
  /-- a set of ints: its members, its size -/
  | set (S : Int → Bool) (n : Nat)
  /-- an instance of the class at C, its dict at dx, its attributes -/
  | ins (C dx : Addr) (fs : List (Str × V))
  /-- the dict of the instance at x -/
  | own (x : Addr)
  /-- the dict of an exception -/
  | xd (fs : List (Str × V))
  /-- a bound method, f of x -/
  | met (f x : Addr)
  /-- a range object lo, lo + 1, .. below hi -/
  | rng (lo hi : Int)
  /-- a thing that is known to the object (the script; a dict while a loop walks it): read, never written while it is so -/
  | frz (o : Obj) (u : HO)
  /-- a code object's table -/
  | tbl (ps : Array Value)
  /-- any other thing, by what is true of its one object (a def of one's own: SetO a S n := HO.ext fun h => ..) -/
  | ext (φ : Heap → Prop)

abbrev Hp := Addr → Option HO
def upd (H : Hp) (a : Addr) (o : HO) : Hp := fun b => if b = a then some o else H b
theorem upd_same {H : Hp} {a : Addr} {o : HO} : upd H a o a = some o := by unfold upd; rw [if_pos rfl]
theorem upd_ne {H : Hp} {a b : Addr} {o : HO} (h : b ≠ a) : upd H a o b = H b := by unfold upd; rw [if_neg h]
/-- two objects of different content stand apart -/
theorem ne_of {H : Hp} {a b : Addr} {o u : HO} (h : H a = some o) (h' : H b = some u) (d : o ≠ u) : a ≠ b := by
  intro e; subst e; rw [h] at h'; exact d (Option.some.inj h')
theorem ne_of_none {H : Hp} {a b : Addr} {o : HO} (h : H a = some o) (h' : H b = none) : a ≠ b := by
  intro e; subst e; rw [h] at h'; cases h'

section
variable (P : Program) (w : World)
def ObjOk (H : Hp) (h : Heap) (a : Addr) : HO → Prop
  | .lst xs => xs.length ≤ sizeLine ∧ ∃ (its : List Value) (n : Nat), Vals xs its ∧ h.get? a = some { cls := .type "list", data := .seq its.toArray n }
  | .tup xs => xs.length ≤ sizeLine ∧ ∃ its : List Value, Vals xs its ∧ IsTup h a its.toArray
  | .dK kvs => kvs.length ≤ sizeLine ∧ (a == sysModules) = false ∧ ∃ vs, KV kvs vs ∧ h.DictOf (mixKind P w) a vs
  | .dT kvs => kvs.length ≤ sizeLine ∧ (a == sysModules) = false ∧ ∃ xs : List (List Key × Addr × Value),
      Paired (fun (p : List Key × V) (q : List Key × Addr × Value) => p.1 = q.1 ∧ H q.2.1 = some (.tup (p.1.map kV)) ∧ RelV p.2 q.2.2) kvs xs ∧
      ∃ o es ep, h.get? a = some o ∧ o.ExactDict ∧ o.data = .dict es ep ∧ es.toList = xs.map (entryOfKey (tupleKind (mixKind P w))) ∧ (xs.map (·.1)).Nodup
  | .set S n => h.SetOf (intKind P w) a S n
  | .ins C dx fs => H dx = some (.own a) ∧ fs.length ≤ 1000 ∧ dx ≠ a ∧ h.get? a = some (PySem.W.instObj C dx) ∧
      ∃ mA, h.Ns1 dx mA ∧ (∀ f, RelO (fs.lookup f) (mA f)) ∧ PySem.Within mA (fs.map (·.1))
  | .own _ => ∃ o, h.get? a = some o
  | .xd fs => ∃ mA, h.Ns1 a mA ∧ ∀ f, RelO (fs.lookup f) (mA f)
  | .rng lo hi => ∃ t u v, h.get? a = some { cls := .type "range", data := .fields #[.int lo t, .int hi u, .int 1 v] }
  | .frz o u => h.get? a = some o ∧ ObjOk H h a u
  | .tbl ps => h.get? a = some { cls := .none, data := .fields ps }
  | .met f x => h.get? a = some (PySem.W.methodObj (.ref f) (.ref x))
  | .ext φ => φ h ∧ (∃ o, h.get? a = some o) ∧ ∀ h1 h2 : Heap, φ h1 → (∀ o, h1.get? a = some o → h2.get? a = some o) → φ h2
/-- the abstract heap is held -/
def HOk (H : Hp) (h : Heap) : Prop := ∀ a o, H a = some o → ObjOk P w H h a o
end

section
variable {P : Program} {w : World} {H H' : Hp} {h h' : Heap} {a : Addr} {o : HO}
theorem ObjOk.lt (x : ObjOk P w H h a o) : a < h.objs.size := by
  cases o with
  | lst xs => obtain ⟨_, _, _, _, e⟩ := x; exact Heap.lt_size e
  | tup xs => obtain ⟨_, _, _, p⟩ := x; exact p.lt
  | dK kvs => obtain ⟨_, _, _, _, o, _, _, e, _⟩ := x; exact Heap.lt_size e
  | dT kvs => obtain ⟨_, _, _, _, o, _, _, e, _⟩ := x; exact Heap.lt_size e
  | set S n => obtain ⟨o, _, _, _, e, _⟩ := x; exact Heap.lt_size e
  | ins C dx fs => obtain ⟨_, _, _, e, _⟩ := x; exact Heap.lt_size e
  | own y => obtain ⟨_, e⟩ := x; exact Heap.lt_size e
  | xd fs => obtain ⟨_, ⟨_, _, _, e, _⟩, _⟩ := x; exact Heap.lt_size e
  | rng lo hi => obtain ⟨_, _, _, e⟩ := x; exact Heap.lt_size e
  | frz ob u => obtain ⟨e, _⟩ := x; exact Heap.lt_size e
  | tbl ps => exact Heap.lt_size (show h.get? a = some _ from x)
  | met f y => exact Heap.lt_size (show h.get? a = some _ from x)
  | ext φ => obtain ⟨_, ⟨_, e⟩, _⟩ := x; exact Heap.lt_size e
theorem Paired.mapP {α β : Type} {F G : α → β → Prop} : ∀ {l₁ : List α} {l₂ : List β}, Paired F l₁ l₂ → (∀ a b, F a b → G a b) → Paired G l₁ l₂
  | _, _, .nil, _ => .nil
  | _, _, .cons r t, f => .cons (f _ _ r) (Paired.mapP t f)
/-- what an object's description leans on: its own object, its own dict, the tuples -/
theorem ObjOk.stay (x : ObjOk P w H h a o) (k : ∀ b u, (b = a ∨ H b = some (.own a)) → h.get? b = some u → h'.get? b = some u)
    (ho : ∀ b, H b = some (.own a) → H' b = some (.own a)) (ht : ∀ b xs, H b = some (.tup xs) → H' b = some (.tup xs)) : ObjOk P w H' h' a o := by
  induction o with
  | lst xs => obtain ⟨z, its, n, r, e⟩ := x; exact ⟨z, its, n, r, k _ _ (.inl rfl) e⟩
  | tup xs => obtain ⟨z, its, r, ob, e, c⟩ := x; exact ⟨z, its, r, ob, k _ _ (.inl rfl) e, c⟩
  | dK kvs => obtain ⟨z, y, vs, r, ob, es, ep, e, c⟩ := x; exact ⟨z, y, vs, r, ob, es, ep, k _ _ (.inl rfl) e, c⟩
  | dT kvs =>
    obtain ⟨z, y, xs, r, ob, es, ep, e, c⟩ := x
    exact ⟨z, y, xs, Paired.mapP r fun p q z => ⟨z.1, ht _ _ z.2.1, z.2.2⟩, ob, es, ep, k _ _ (.inl rfl) e, c⟩
  | set S n => obtain ⟨ob, es, ep, t, e, c⟩ := x; exact ⟨ob, es, ep, t, k _ _ (.inl rfl) e, c⟩
  | ins C dx fs =>
    obtain ⟨d, z, ne, e, mA, ⟨od, es, ep, e2, c⟩, r⟩ := x
    exact ⟨ho _ d, z, ne, k _ _ (.inl rfl) e, mA, ⟨od, es, ep, k _ _ (.inr d) e2, c⟩, r⟩
  | own y => obtain ⟨ob, e⟩ := x; exact ⟨ob, k _ _ (.inl rfl) e⟩
  | xd fs => obtain ⟨mA, ⟨od, es, ep, e, c⟩, r⟩ := x; exact ⟨mA, ⟨od, es, ep, k _ _ (.inl rfl) e, c⟩, r⟩
  | rng lo hi => obtain ⟨t, u, v, e⟩ := x; exact ⟨t, u, v, k _ _ (.inl rfl) e⟩
  | frz ob u ih => obtain ⟨e, q⟩ := x; exact ⟨k _ _ (.inl rfl) e, ih q⟩
  | tbl ps =>
    have e : h.get? a = some { cls := .none, data := .fields ps } := x
    show h'.get? a = some { cls := .none, data := .fields ps }
    exact k a _ (.inl rfl) e
  | met f y =>
    have e : h.get? a = some (PySem.W.methodObj (.ref f) (.ref y)) := x
    show h'.get? a = some (PySem.W.methodObj (.ref f) (.ref y))
    exact k a _ (.inl rfl) e
  | ext φ => obtain ⟨p, ⟨o, e⟩, st⟩ := x; exact ⟨st _ _ p fun o q => k _ _ (.inl rfl) q, ⟨o, k _ _ (.inl rfl) e⟩, st⟩
theorem HOk.lt (x : HOk P w H h) (e : H a = some o) : a < h.objs.size := (x a o e).lt
theorem HOk.fresh (x : HOk P w H h) (e : h.objs.size ≤ a) : H a = none := by
  cases q : H a with
  | none => rfl
  | some u => exact absurd (Nat.lt_of_lt_of_le (x.lt q) e) (Nat.lt_irrefl _)
/-- every object of the heap is kept -/
theorem HOk.kept (x : HOk P w H h) (k : ∀ b u, h.get? b = some u → h'.get? b = some u) : HOk P w H h' := fun a o e =>
  (x a o e).stay (fun b u _ q => k b u q) (fun _ q => q) fun _ _ q => q
/-- a new object is laid and tracked -/
theorem HOk.laid (x : HOk P w H h) (k : ∀ b u, h.get? b = some u → h'.get? b = some u) (hp : h.objs.size ≤ a) (new : ObjOk P w (upd H a o) h' a o) : HOk P w (upd H a o) h' := fun b u e => by
  have hn := x.fresh hp
  by_cases hb : b = a
  · subst hb; rw [upd_same] at e; cases e; exact new
  · rw [upd_ne hb] at e
    exact (x b u e).stay (fun c v _ q => k c v q) (fun c q => by rw [upd_ne (ne_of_none q hn)]; exact q) fun c xs q => by rw [upd_ne (ne_of_none q hn)]; exact q
end

/-- what may be read as u: it is u, or a known u -/
def Rd (H : Hp) (a : Addr) (u : HO) : Prop := H a = some u ∨ ∃ o, H a = some (.frz o u)
theorem Rd.ok {P : Program} {w : World} {H : Hp} {h : Heap} {a : Addr} {u : HO} (r : Rd H a u) (x : HOk P w H h) : ObjOk P w H h a u := by
  rcases r with r | ⟨o, r⟩
  · exact x a u r
  · obtain ⟨_, q⟩ := x a _ r
    exact q
/-- what may be written -/
def Mut : Option HO → Prop
  | some (.lst _) => True
  | some (.dK _) => True
  | some (.dT _) => True
  | some (.set _ _) => True
  | some (.ins _ _ _) => True
  | some (.ext _) => True
  | _ => False
section
variable {P : Program} {w : World} {H : Hp} {h h' : Heap} {x e : Addr} {o' : HO}
/-- the object at e is changed: x itself, or the dict of the instance x -/
theorem HOk.write (ok : HOk P w H h) (mu : Mut (H x)) (he : e = x ∨ H e = some (.own x)) (k : ∀ b u, b ≠ e → h.get? b = some u → h'.get? b = some u) (heo : ∃ u, h'.get? e = some u)
    (new : ObjOk P w (upd H x o') h' x o') : HOk P w (upd H x o') h' := fun b u q => by
  have nown : ∀ c y, H c = some (.own y) → c ≠ x := fun c y r z => by subst z; rw [r] at mu; exact mu
  have ntup : ∀ c xs, H c = some (.tup xs) → c ≠ x := fun c xs r z => by subst z; rw [r] at mu; exact mu
  by_cases hb : b = x
  · subst hb; rw [upd_same] at q; cases q; exact new
  · rw [upd_ne hb] at q
    by_cases hbe : b = e
    · have q' : H b = some (.own x) := by
        rcases he with z | z
        · exact absurd (hbe.trans z) hb
        · rw [hbe]; exact z
      rw [q] at q'; cases q'
      obtain ⟨v, hv⟩ := heo
      exact ⟨v, by rw [hbe]; exact hv⟩
    · refine (ok b u q).stay (fun c v hc r => k c v ?_ r) (fun c r => by rw [upd_ne (nown c b r)]; exact r) fun c xs r => by rw [upd_ne (ntup c xs r)]; exact r
      rcases hc with rfl | hc
      · exact hbe
      · rintro rfl
        rcases he with z | z
        · exact nown c b hc z
        · rw [hc] at z; cases z; exact hb rfl
end

/-! ### kept unless tracked; of the frames at fs (the callers') the slots may change (an exception that passes writes there); of the records at ex (iterators) nothing is said -/
structure Un (fs ex : List Addr) (H H' : Hp) (h h' : Heap) : Prop where
  keep : ∀ b o, h.get? b = some o → H b = none → b ∉ fs → b ∉ ex → h'.get? b = some o
  slot : ∀ b o, h.get? b = some o → H b = none → b ∈ fs → b ∉ ex → ∃ sl, h'.get? b = some { o with slots := sl }
  free : ∀ b o, h.get? b = some o → H b = none → b ∉ ex → H' b = none
  there : ∀ b o, h.get? b = some o → b ∉ ex → ∃ o', h'.get? b = some o'
  tups : ∀ b xs, H b = some (.tup xs) → H' b = some (.tup xs)
  frzs : ∀ b o u, H b = some (.frz o u) → H' b = some (.frz o u)
  tbls : ∀ b ps, H b = some (.tbl ps) → ∃ more, H' b = some (.tbl (ps ++ more))
section
variable {fs fs' ex ex' : List Addr} {H H1 H2 : Hp} {h h1 h2 h' : Heap} {a x e : Addr} {o : HO}
theorem Un.any (u : Un fs ex H H1 h h1) {b : Addr} {ob : Obj} (q : h.get? b = some ob) (n : H b = none) (hx : b ∉ ex) : ∃ sl, h1.get? b = some { ob with slots := sl } := by
  by_cases hb : b ∈ fs
  · exact u.slot b ob q n hb hx
  · exact ⟨ob.slots, u.keep b ob q n hb hx⟩
theorem Un.kept (k : ∀ b u, h.get? b = some u → h'.get? b = some u) : Un fs ex H H h h' :=
  ⟨fun b ob q _ _ _ => k b ob q, fun b ob q _ _ _ => ⟨ob.slots, k b ob q⟩, fun _ _ _ n _ => n, fun b ob q _ => ⟨ob, k b ob q⟩, fun _ _ q => q, fun _ _ _ q => q, fun _ ps q => ⟨#[], by rw [q]; simp⟩⟩
theorem Un.refl : Un fs ex H H h h := Un.kept fun _ _ q => q
theorem Un.laid (k : ∀ b u, h.get? b = some u → h'.get? b = some u) (hp : h.objs.size ≤ a) (hn : H a = none) : Un fs ex H (upd H a o) h h' where
  keep := fun b u q _ _ _ => k b u q
  slot := fun b u q _ _ _ => ⟨u.slots, k b u q⟩
  free := fun b u q n _ => by rw [upd_ne (Nat.ne_of_lt (Nat.lt_of_lt_of_le (Heap.lt_size q) hp))]; exact n
  there := fun b u q _ => ⟨u, k b u q⟩
  tups := fun b xs q => by rw [upd_ne (ne_of_none q hn)]; exact q
  frzs := fun b u xs q => by rw [upd_ne (ne_of_none q hn)]; exact q
  tbls := fun b ps q => ⟨#[], by rw [upd_ne (ne_of_none q hn), q]; simp⟩
theorem Un.write (mu : Mut (H x)) (he : e = x ∨ H e = some (.own x)) (k : ∀ b u, b ≠ e → h.get? b = some u → h'.get? b = some u) (heo : ∃ u, h'.get? e = some u) : Un fs ex H (upd H x o) h h' := by
  have hx : ∀ b, H b = none → b ≠ x := fun b n z => by subst z; rw [n] at mu; exact mu
  have hb : ∀ b, H b = none → b ≠ e := fun b n z => by
    subst z
    rcases he with r | r
    · exact hx b n r
    · rw [n] at r; cases r
  have hm : ∀ b u, H b = some u → ¬ Mut (some u) → b ≠ x := fun b u q nm z => by subst z; rw [q] at mu; exact nm mu
  refine ⟨fun b u q n _ _ => k b u (hb b n) q, fun b u q n _ _ => ⟨u.slots, k b u (hb b n) q⟩, fun b u q n _ => by rw [upd_ne (hx b n)]; exact n, fun b u q _ => ?_,
    fun b xs q => by rw [upd_ne (hm b _ q fun z => z)]; exact q, fun b u xs q => by rw [upd_ne (hm b _ q fun z => z)]; exact q, fun b ps q => ⟨#[], by rw [upd_ne (hm b _ q fun z => z), q]; simp⟩⟩
  by_cases hbe : b = e
  · subst hbe; exact heo
  · exact ⟨u, k b u hbe q⟩
end

/-! ### the heap without what is tracked -/
def trk (h : Heap) (H : Hp) : List Addr := (List.range h.objs.size).filter fun a => (H a).isSome
def hidT (h : Heap) (H : Hp) : Heap := PySem.W.hideAll h (trk h H)
theorem hidT_size (h : Heap) (H : Hp) : (hidT h H).objs.size = h.objs.size := PySem.W.hideAll_size _ _
theorem hidT_get {h : Heap} {H : Hp} {b : Addr} {o : Obj} (e : h.get? b = some o) (n : H b = none) : (hidT h H).get? b = some o :=
  PySem.W.hideAll_get _ e fun hm => by
    have q : (H b).isSome = true := (List.mem_filter.mp hm).2
    rw [n] at q; simp at q
theorem of_hidT {h : Heap} {H : Hp} {b : Addr} {o : Obj} (e : (hidT h H).get? b = some o) : h.get? b = some o ∧ H b = none := by
  have e' : h.get? b = some o := PySem.W.of_hideAll (trk h H) e
  refine ⟨e', ?_⟩
  cases q : H b with
  | none => rfl
  | some x =>
    have hm : b ∈ trk h H := List.mem_filter.mpr ⟨List.mem_range.mpr (Heap.lt_size e'), by simp [q]⟩
    have z : (hidT h H).get? b = none := PySem.W.hideAll_none (trk h H) hm
    rw [z] at e; cases e

/-! ### OpenK's ledger, filled with every new object but one -/
end L2

namespace L2
open PySem PySem.Spec PyProof.Rows

/-- the module's facts, over the base: the heap at the law's entry without what is tracked there -/
structure Mod (K : PySem.W.Frag) (mg : Str → Option Value) (base : Heap) : Prop where
  kin : K.In base
  glob : base.Ns mainGlobals mg
  blt : ∃ mb, base.Ns builtinsNs mb ∧ ∀ x : Str, x ≠ "__name__" → mb x = bootBuiltins x
  nolimit : base.NoLimit

/-- the context: a def's body (or a comprehension's block) running. base: fixed through the whole law; s₀, H₀: the entry; outer: the frames whose slots others may change (a def's callers); stack: all frames that run;
   ex: iterators that were made ahead of the entry and are walked here (a comprehension's); fn: the names whose cells were made at the entry (a def: all; a comprehension's block: its own); calm: not within an except suite; pn: pins that every state bears; xe: what is wanted of an exception that leaves the code -/
structure Cx where
  prog : Program
  w : World
  K : PySem.W.Frag
  mg : Str → Option Value
  base : Heap
  A : Around
  N : List Str
  s_0 : Shared
  H_0 : Hp
  env : Env
  outer : List Env
  stack : List Env
  ex : List Addr
  fn : Str → Bool
  calm : Bool
  pn : List (Addr × Obj)
  xe : Value → Shared → Prop
/-- the callers' frames -/
def frs (l : List Env) : List Addr := l.filterMap (·.frame)
abbrev Cx.fs (X : Cx) : List Addr := frs X.outer

def Vis (sc : Scope) (x : Str) : Prop := sc.names.lookup x = some .local ∨ sc.names.lookup x = some .cell ∨ sc.names.lookup x = some .free
def Loc (sc : Scope) (x : Str) : Prop := sc.names.lookup x = some .local ∨ sc.names.lookup x = some .cell
def Look (env : Env) (h : Heap) (m : Str → Option Value) (x : Str) (u : Value) : Prop :=
  (env.kindOf x = some .local ∧ m x = some u) ∨ ((env.kindOf x = some .cell ∨ env.kindOf x = some .free) ∧ ∃ c, env.cells.lookup x = some c ∧ h.IsCell c (some u))

structure Cx.Ok (X : Cx) : Prop where
  mod : Mod X.K X.mg X.base
  kind : X.env.scope.kind = .function
  glob : X.env.globals = mainGlobals
  blt : X.env.builtins = builtinsNs
  above : X.s_0.heap.objs.size ≤ X.env.locals
  inj : ∀ x y c, X.env.cells.lookup x = some c → X.env.cells.lookup y = some c → x = y
  has : ∀ x, (X.env.kindOf x = some .cell ∨ X.env.kindOf x = some .free) → ∃ c, X.env.cells.lookup x = some c
  cab : ∀ x c, X.fn x = true → X.env.cells.lookup x = some c → X.s_0.heap.objs.size ≤ c
  hd : X.calm = true → X.A.handled = none
  frames : X.A.frames = some X.stack
  stk : X.stack = X.outer ∨ (X.stack = X.env :: X.outer ∧ X.env.frame = some X.env.locals)
  exf : ∀ b ∈ X.ex, b ≠ X.env.locals ∧ ∀ x c, X.env.cells.lookup x = some c → c ≠ b
  bs : ∀ b o, X.base.get? b = some o → X.s_0.heap.get? b = some o ∧ X.H_0 b = none
  bsz : X.base.objs.size ≤ X.s_0.heap.objs.size
  noex : ∀ b o, X.base.get? b = some o → b ∉ X.ex
  exfs : ∀ b ∈ X.ex, b ∉ X.fs
  funs : X.s_0.heap.FunFrames X.base X.outer
  frf : ∀ b ∈ X.fs, X.H_0 b = none

structure Inv (X : Cx) (pins : List (Addr × Obj)) (σ : List (Option V)) (H : Hp) (s : Shared) : Prop where
  ok : X.Ok
  os : s.os = X.s_0.os
  bare : AllBare s.gens
  base : Un X.fs X.ex X.H_0 H X.s_0.heap s.heap
  loc : ∃ m, s.heap.Ns X.env.locals m ∧ ∀ (i : Nat) (x : Str) (v : V), X.N[i]? = some x → σ[i]? = some (some v) → Vis X.env.scope x → ∃ u, RelV v u ∧ Look X.env s.heap m x u
  cell : ∀ x c, X.env.cells.lookup x = some c → ∃ v, s.heap.IsCell c v
  free : H X.env.locals = none
  freeC : ∀ x c, X.env.cells.lookup x = some c → H c = none
  pin : ∀ p ∈ X.pn ++ pins, s.heap.get? p.1 = some p.2 ∧ H p.1 = none ∧ p.1 ≠ X.env.locals ∧ p.1 ∉ X.fs ∧ ∀ v, p.2.data ≠ .cell v
  hok : HOk X.prog X.w H s.heap
  len : σ.length = X.N.length

section
variable {X : Cx} {pins : List (Addr × Obj)} {σ : List (Option V)} {H H' : Hp} {s : Shared} {h' : Heap}

theorem Cx.Ok.nofr (ok : X.Ok) {b : Addr} {o : Obj} (e : X.base.get? b = some o) : b ∉ X.fs := fun hb => by
  have := (ok.funs.mem hb).1
  rw [e] at this; cases this
theorem Inv.bs (I : Inv X pins σ H s) : ∀ b o, X.base.get? b = some o → s.heap.get? b = some o ∧ H b = none := fun b o e =>
  ⟨I.base.keep b o (I.ok.bs b o e).1 (I.ok.bs b o e).2 (I.ok.nofr e) (I.ok.noex b o e), I.base.free b o (I.ok.bs b o e).1 (I.ok.bs b o e).2 (I.ok.noex b o e)⟩
theorem Inv.bk (I : Inv X pins σ H s) : ∀ b o, X.base.get? b = some o → s.heap.get? b = some o := fun b o e => (I.bs b o e).1
theorem Inv.mod (I : Inv X pins σ H s) : Mod X.K X.mg X.base := I.ok.mod
theorem Inv.kIn (I : Inv X pins σ H s) : X.K.In s.heap := I.ok.mod.kin.keeps I.bk
theorem Inv.lt (I : Inv X pins σ H s) : X.env.locals < s.heap.objs.size := let ⟨_, hn, _⟩ := I.loc; hn.lt
theorem Inv.sz (I : Inv X pins σ H s) : X.s_0.heap.objs.size ≤ s.heap.objs.size := Nat.le_trans I.ok.above (Nat.le_of_lt I.lt)
theorem Inv.nofs (I : Inv X pins σ H s) {a : Addr} (h : s.heap.objs.size ≤ a) : a ∉ X.fs := fun hb => by
  obtain ⟨_, o, ho, _⟩ := I.ok.funs.mem hb
  exact absurd (Nat.lt_of_lt_of_le (Heap.lt_size ho) (Nat.le_trans I.sz h)) (Nat.lt_irrefl _)
theorem Inv.cne (I : Inv X pins σ H s) : ∀ x c, X.env.cells.lookup x = some c → c ≠ X.env.locals := fun x c e z => by
  obtain ⟨v, o, ho, hd⟩ := I.cell x c e
  obtain ⟨m, ⟨o', es, ep, ho', hd', _⟩, _⟩ := I.loc
  rw [z, ho'] at ho; cases ho; rw [hd'] at hd; cases hd
theorem Inv.funs (I : Inv X pins σ H s) : s.heap.FunFrames X.base X.outer := by
  have all : ∀ (l : List Env), (∀ b ∈ frs l, b ∈ X.fs) → X.s_0.heap.FunFrames X.base l → s.heap.FunFrames X.base l := by
    intro l
    induction l with
    | nil => intro _ _; trivial
    | cons env r ih =>
      intro hs hl
      obtain ⟨hk, ⟨L, o, hf, hn, ho, hd⟩, hr⟩ := hl
      have hL : L ∈ X.fs := hs L (by unfold frs; rw [List.filterMap_cons, hf]; exact List.mem_cons_self)
      obtain ⟨sl, e⟩ := I.base.slot L o ho (I.ok.frf L hL) hL fun z => I.ok.exfs L z hL
      exact ⟨hk, ⟨L, _, hf, hn, e, hd⟩, ih (fun b hb => hs b (by unfold frs; rw [List.filterMap_cons, hf]; exact List.mem_cons_of_mem _ hb)) hr⟩
  exact all X.outer (fun _ hb => hb) I.ok.funs

/-- the frames that run, for a call -/
theorem Inv.stack (I : Inv X pins σ H s) : s.heap.FunFrames X.base X.stack := by
  rcases I.ok.stk with e | ⟨e, hf⟩
  · rw [e]; exact I.funs
  · rw [e]
    obtain ⟨m, hn, _⟩ := I.loc
    refine .cons (by rw [I.ok.kind]; decide) hf hn ?_ I.funs
    exact Heap.get?_none_of_le (Nat.le_trans I.ok.bsz I.ok.above)
theorem Inv.stkSub (I : Inv X pins σ H s) : ∀ b ∈ frs X.stack, b ∈ X.env.locals :: X.fs := fun b hb => by
  rcases I.ok.stk with e | ⟨e, hf⟩
  · rw [e] at hb; exact List.mem_cons_of_mem _ hb
  · rw [e] at hb
    unfold frs at hb
    rw [List.filterMap_cons, hf] at hb
    exact hb
theorem Inv.stkFree (I : Inv X pins σ H s) : ∀ b ∈ frs X.stack, H b = none := fun b hb => by
  rcases List.mem_cons.mp (I.stkSub b hb) with e | hb
  · rw [e]; exact I.free
  · obtain ⟨_, o, ho, _⟩ := I.ok.funs.mem hb
    exact I.base.free b o ho (I.ok.frf b hb) fun z => I.ok.exfs b z hb

/-- THE STEP: the untracked objects but the frame and the records at ch are kept (the callers' frames up to slots), the frame's map is kept, the new abstract heap is held -/
theorem Inv.step {g' : Array GenState} {t' : Nat} {d' : Drawn} {ch : List Addr} (I : Inv X pins σ H s)
    (hch : ∀ b ∈ ch, (b ∈ X.ex ∨ X.s_0.heap.objs.size ≤ b) ∧ b ≠ X.env.locals ∧ (∀ x c, X.env.cells.lookup x = some c → c ≠ b) ∧ ∀ p ∈ X.pn ++ pins, p.1 ≠ b)
    (keep : ∀ b o, b ≠ X.env.locals → b ∉ X.fs → b ∉ ch → s.heap.get? b = some o → H b = none → h'.get? b = some o)
    (slot : ∀ b o, b ≠ X.env.locals → b ∈ X.fs → b ∉ ch → s.heap.get? b = some o → H b = none → ∃ sl, h'.get? b = some { o with slots := sl }) (free : ∀ b o, b ∉ ch → s.heap.get? b = some o → H b = none → H' b = none)
    (there : ∀ b o, b ∉ ch → s.heap.get? b = some o → ∃ o', h'.get? b = some o')
    (tups : ∀ b xs, H b = some (.tup xs) → H' b = some (.tup xs)) (frzs : ∀ b o u, H b = some (.frz o u) → H' b = some (.frz o u)) (tbls : ∀ b ps, H b = some (.tbl ps) → ∃ more, H' b = some (.tbl (ps ++ more)))
    (ns : ∀ m, s.heap.Ns X.env.locals m → h'.Ns X.env.locals m) (hok : HOk X.prog X.w H' h') (hg : AllBare g') :
    Inv X pins σ H' { s with heap := h', gens := g', drawn := d', toks := t' } := by
  have neL : ∀ b o, X.s_0.heap.get? b = some o → b ≠ X.env.locals := fun b o e => Nat.ne_of_lt (Nat.lt_of_lt_of_le (Heap.lt_size e) I.ok.above)
  have neC : ∀ b o, X.s_0.heap.get? b = some o → b ∉ X.ex → b ∉ ch := fun b o e hx hb => by
    rcases (hch b hb).1 with z | z
    · exact hx z
    · exact absurd (Nat.lt_of_lt_of_le (Heap.lt_size e) z) (Nat.lt_irrefl _)
  have cellK : ∀ x c, X.env.cells.lookup x = some c → ∀ v, s.heap.IsCell c v → h'.IsCell c v := fun x c e v ⟨o, ho, hd⟩ => by
    have nch : c ∉ ch := fun z => (hch c z).2.2.1 x c e rfl
    by_cases hc : c ∈ X.fs
    · obtain ⟨sl, q⟩ := slot c o (I.cne x c e) hc nch ho (I.freeC x c e)
      exact ⟨_, q, hd⟩
    · exact ⟨o, keep c o (I.cne x c e) hc nch ho (I.freeC x c e), hd⟩
  refine ⟨I.ok, I.os, hg, ⟨fun b o e n hb hx => ?_, fun b o e n hb hx => ?_, fun b o e n hx => ?_, fun b o e hx => ?_, fun b xs e => tups b xs (I.base.tups b xs e), fun b o xs e => frzs b o xs (I.base.frzs b o xs e), fun b ps e => ?_⟩, ?_, fun x c e => ?_, ?_, fun x c e => ?_, fun p hp => ?_, hok, I.len⟩
  · exact keep b o (neL b o e) hb (neC b o e hx) (I.base.keep b o e n hb hx) (I.base.free b o e n hx)
  · obtain ⟨sl, e1⟩ := I.base.slot b o e n hb hx
    obtain ⟨sl', e2⟩ := slot b _ (neL b o e) hb (neC b o e hx) e1 (I.base.free b o e n hx)
    exact ⟨sl', e2⟩
  · obtain ⟨o', e1⟩ := I.base.there b o e hx
    exact free b o' (neC b o e hx) e1 (I.base.free b o e n hx)
  · obtain ⟨o', e1⟩ := I.base.there b o e hx
    exact there b o' (neC b o e hx) e1
  · obtain ⟨m1, e1⟩ := I.base.tbls b ps e
    obtain ⟨m2, e2⟩ := tbls b _ e1
    exact ⟨m1 ++ m2, by rw [e2, Array.append_assoc]⟩
  · obtain ⟨m, hn, hl⟩ := I.loc
    refine ⟨m, ns m hn, fun i x v e1 e2 e3 => ?_⟩
    obtain ⟨u, r, l⟩ := hl i x v e1 e2 e3
    refine ⟨u, r, ?_⟩
    rcases l with l | ⟨k, c, e, z⟩
    · exact .inl l
    · exact .inr ⟨k, c, e, cellK x c e _ z⟩
  · obtain ⟨v, z⟩ := I.cell x c e
    exact ⟨v, cellK x c e v z⟩
  · obtain ⟨m, ⟨o, _, _, ho, _⟩, _⟩ := I.loc
    exact free _ o (fun z => (hch _ z).2.1 rfl) ho I.free
  · obtain ⟨v, o, ho, hd⟩ := I.cell x c e
    exact free c o (fun z => (hch c z).2.2.1 x c e rfl) ho (I.freeC x c e)
  · obtain ⟨e, n, ne, nf, d⟩ := I.pin p hp
    have nch : p.1 ∉ ch := fun z => (hch p.1 z).2.2.2 p hp rfl
    exact ⟨keep p.1 p.2 ne nf nch e n, free p.1 p.2 nch e n, ne, nf, d⟩
/-- .. where the frame's own object is kept too -/
theorem Inv.un {t' : Nat} (I : Inv X pins σ H s) (u : Un X.fs [] H H' s.heap h') (hok : HOk X.prog X.w H' h') : Inv X pins σ H' { s with heap := h', toks := t' } := by
  obtain ⟨m, ⟨o, es, ep, ho, r⟩, _⟩ := id I.loc
  obtain ⟨sl, hL⟩ := u.any ho I.free (by simp)
  exact I.step (g' := s.gens) (d' := s.drawn) (ch := []) (fun _ z => nomatch z) (fun b o _ hb _ e n => u.keep b o e n hb (by simp)) (fun b o _ hb _ e n => u.slot b o e n hb (by simp)) (fun b o _ e n => u.free b o e n (by simp)) (fun b o _ e => u.there b o e (by simp)) u.tups u.frzs u.tbls (fun m' hm => by
    obtain ⟨o', es', ep', ho', r'⟩ := hm
    rw [ho] at ho'; cases ho'
    exact ⟨_, es', ep', hL, r'⟩) hok I.bare
/-- behind a call (or a comprehension's block): the slots of this frame may have changed too, the records at ch may have turned -/
theorem Inv.call {g' : Array GenState} {t' : Nat} {d' : Drawn} {ch : List Addr} (I : Inv X pins σ H s) (u : Un (frs X.stack) ch H H' s.heap h') (hok : HOk X.prog X.w H' h') (hg : AllBare g')
    (hch : ∀ b ∈ ch, (b ∈ X.ex ∨ X.s_0.heap.objs.size ≤ b) ∧ b ≠ X.env.locals ∧ (∀ x c, X.env.cells.lookup x = some c → c ≠ b) ∧ ∀ p ∈ X.pn ++ pins, p.1 ≠ b) :
    Inv X pins σ H' { s with heap := h', gens := g', drawn := d', toks := t' } := by
  obtain ⟨m, ⟨o, es, ep, ho, r⟩, _⟩ := id I.loc
  obtain ⟨sl, hL⟩ := u.any ho I.free fun z => (hch _ z).2.1 rfl
  exact I.step (ch := ch) hch (fun b o hL hb hc e n => u.keep b o e n (fun z => (List.mem_cons.mp (I.stkSub b z)).elim hL hb) hc) (fun b o _ _ hc e n => u.any e n hc) (fun b o hc e n => u.free b o e n hc) (fun b o hc e => u.there b o e hc) u.tups u.frzs u.tbls (fun m' hm => by
    obtain ⟨o', es', ep', ho', r'⟩ := hm
    rw [ho] at ho'; cases ho'
    exact ⟨_, es', ep', hL, r'⟩) hok hg
/-- an untracked record of ours (an iterator) has turned -/
theorem Inv.turned {t' : Nat} {it : Addr} (I : Inv X pins σ H s) (k : ∀ b o, b ≠ it → s.heap.get? b = some o → h'.get? b = some o) (hn : H it = none) (hL : it ≠ X.env.locals)
    (h1 : it ∈ X.ex ∨ X.s_0.heap.objs.size ≤ it) (h2 : ∀ x c, X.env.cells.lookup x = some c → c ≠ it) (h3 : ∀ p ∈ X.pn ++ pins, p.1 ≠ it) : Inv X pins σ H { s with heap := h', toks := t' } := by
  have nit : ∀ b u, H b = some u → b ≠ it := fun b u e z => by rw [z, hn] at e; cases e
  refine I.step (g' := s.gens) (d' := s.drawn) (ch := [it]) (fun b hb => ?_) (fun b o _ _ hc e _ => k b o (fun z => hc (by simp [z])) e) (fun b o _ _ hc e _ => ⟨o.slots, k b o (fun z => hc (by simp [z])) e⟩) (fun _ _ _ _ n => n)
    (fun b o hc e => ⟨o, k b o (fun z => hc (by simp [z])) e⟩) (fun _ _ e => e) (fun _ _ _ e => e) (fun b ps e => ⟨#[], by rw [e]; simp⟩) (fun m hm => ?_) (fun b u e => ?_) I.bare
  · have e : b = it := by simpa using hb
    subst e
    exact ⟨h1, hL, h2, h3⟩
  · obtain ⟨o, es, ep, ho, r⟩ := hm
    exact ⟨o, es, ep, k _ o (Ne.symm hL) ho, r⟩
  · refine (I.hok b u e).stay (fun c v hc q => k c v ?_ q) (fun _ q => q) fun _ _ q => q
    rcases hc with z | z
    · rw [z]; exact nit b u e
    · exact nit c _ z
theorem Inv.tok (I : Inv X pins σ H s) (t : Nat) : Inv X pins σ H { s with toks := t } := I.un (h' := s.heap) (t' := t) Un.refl I.hok
/-- all objects kept -/
theorem Inv.kept {t' : Nat} (I : Inv X pins σ H s) (k : ∀ b u, s.heap.get? b = some u → h'.get? b = some u) : Inv X pins σ H { s with heap := h', toks := t' } := I.un (Un.kept k) (I.hok.kept k)
/-- a new object laid and tracked -/
theorem Inv.laid {a : Addr} {o : HO} {t' : Nat} (I : Inv X pins σ H s) (k : ∀ b u, s.heap.get? b = some u → h'.get? b = some u) (hp : s.heap.objs.size ≤ a) (new : ObjOk X.prog X.w (upd H a o) h' a o) :
    Inv X pins σ (upd H a o) { s with heap := h', toks := t' } := I.un (Un.laid k hp (I.hok.fresh hp)) (I.hok.laid k hp new)
/-- an object written -/
theorem Inv.write {x e : Addr} {o : HO} {t' : Nat} (I : Inv X pins σ H s) (mu : Mut (H x)) (he : e = x ∨ H e = some (.own x)) (k : ∀ b u, b ≠ e → s.heap.get? b = some u → h'.get? b = some u) (heo : ∃ u, h'.get? e = some u)
    (new : ObjOk X.prog X.w (upd H x o) h' x o) : Inv X pins σ (upd H x o) { s with heap := h', toks := t' } := I.un (Un.write mu he k heo) (I.hok.write mu he k heo new)
/-- forgetting slots, pins -/
theorem Inv.weak {σ' : List (Option V)} (I : Inv X pins σ H s) (hl : σ'.length = σ.length) (w : ∀ (i : Nat) v, σ'[i]? = some (some v) → σ[i]? = some (some v)) : Inv X pins σ' H s :=
  ⟨I.ok, I.os, I.bare, I.base, let ⟨m, hn, hl'⟩ := I.loc; ⟨m, hn, fun i x v e1 e2 e3 => hl' i x v e1 (w i v e2) e3⟩, I.cell, I.free, I.freeC, I.pin, I.hok, hl.trans I.len⟩
theorem Inv.pins_of {pins' : List (Addr × Obj)} (I : Inv X pins σ H s) (h : ∀ p ∈ pins', s.heap.get? p.1 = some p.2 ∧ H p.1 = none ∧ p.1 ≠ X.env.locals ∧ p.1 ∉ X.fs ∧ ∀ v, p.2.data ≠ .cell v) : Inv X pins' σ H s :=
  ⟨I.ok, I.os, I.bare, I.base, I.loc, I.cell, I.free, I.freeC, fun p hp => (List.mem_append.mp hp).elim (fun z => I.pin p (List.mem_append_left _ z)) (h p), I.hok, I.len⟩

theorem nodup_ix {N : List Str} (hN : N.Nodup) {i j : Nat} {x : Str} (a : N[i]? = some x) (b : N[j]? = some x) : i = j := by
  obtain ⟨h1, e1⟩ := List.getElem?_eq_some_iff.mp a
  obtain ⟨h2, e2⟩ := List.getElem?_eq_some_iff.mp b
  exact (List.getElem_inj hN).mp (e1.trans e2.symm)

/-- a name is stored; what changed -/
theorem store_ok2 {M : Model} {A : Around} {E : Value → Shared → Prop} {i : Nat} {x : Str} {v : V} {u : Value} {Q : Unit → Shared → Prop} (I : Inv X pins σ H s) (hN : X.N.Nodup) (hi : X.N[i]? = some x) (hx : Loc X.env.scope x) (r : RelV v u)
    (h : ∀ s', Inv X pins (σ.set i (some v)) H s' → (∃ a, Heap.SameBut a s.heap s'.heap ∧ (a = X.env.locals ∨ X.env.cells.lookup x = some a)) → Q () s') (hf : X.fn x = true ∨ X.env.scope.names.lookup x = some .local := by first | exact .inl rfl | exact .inr rfl | assumption) : wpAny M A (storeName X.env x u) Q E s := by
  obtain ⟨m, hn, hl⟩ := id I.loc
  have hcls : (X.env.scope.kind == .class || (X.env.scope.kind == .module && X.env.locals != X.env.globals)) = false := by rw [I.ok.kind]; rfl
  have hiσ : i < σ.length := by rw [I.len]; exact (List.getElem?_eq_some_iff.mp hi).1
  have cne := I.cne
  have tracked : ∀ {a : Addr} {h' : Heap}, (∃ o, s.heap.get? a = some o ∧ H a = none) → Heap.SameBut a s.heap h' → HOk X.prog X.w H h' := fun {a h'} ha hs b ob e => by
    obtain ⟨_, _, hfree⟩ := ha
    refine (I.hok b ob e).stay (fun c w' hc q => (hs.2 c ?_).trans q) (fun _ q => q) fun _ _ q => q
    rintro rfl
    rcases hc with rfl | hc
    · rw [hfree] at e; cases e
    · rw [hfree] at hc; cases hc
  rcases hx with hk | hk
  · refine wpAny_storeName_local hk hn (fun h' hn' hs => ?_) hcls
    obtain ⟨oL, _, _, hoL, _⟩ := id hn
    refine h _ ⟨I.ok, I.os, I.bare, ⟨fun b o e n hb hx => ?_, fun b o e n hb hx => ?_, I.base.free, fun b o e hx => ?_, I.base.tups, I.base.frzs, I.base.tbls⟩, ⟨_, hn', fun j y v' e1 e2 e3 => ?_⟩, fun y c e => ?_, I.free, I.freeC, fun p hp => ?_, tracked ⟨oL, hoL, I.free⟩ hs, by simpa using I.len⟩ ⟨_, hs, .inl rfl⟩
    · exact (hs.2 b (Nat.ne_of_lt (Nat.lt_of_lt_of_le (Heap.lt_size e) I.ok.above))).trans (I.base.keep b o e n hb hx)
    · obtain ⟨sl, e1⟩ := I.base.slot b o e n hb hx
      exact ⟨sl, (hs.2 b (Nat.ne_of_lt (Nat.lt_of_lt_of_le (Heap.lt_size e) I.ok.above))).trans e1⟩
    · obtain ⟨o', e1⟩ := I.base.there b o e hx
      exact ⟨o', (hs.2 b (Nat.ne_of_lt (Nat.lt_of_lt_of_le (Heap.lt_size e) I.ok.above))).trans e1⟩
    · by_cases hj : j = i
      · subst hj
        rw [hi] at e1; cases e1
        rw [List.getElem?_set_self hiσ] at e2
        cases e2
        exact ⟨u, r, .inl ⟨hk, by simp⟩⟩
      · rw [List.getElem?_set_ne (Ne.symm hj)] at e2
        obtain ⟨u', r', q⟩ := hl j y v' e1 e2 e3
        refine ⟨u', r', ?_⟩
        rcases q with ⟨k, e⟩ | ⟨k, c, e, z⟩
        · refine .inl ⟨k, ?_⟩
          have : y ≠ x := fun e => hj (nodup_ix hN e1 (e ▸ hi))
          simp [this, e]
        · exact .inr ⟨k, c, e, z.sameBut hs (cne y c e)⟩
    · obtain ⟨w', z⟩ := I.cell y c e
      exact ⟨w', z.sameBut hs (cne y c e)⟩
    · obtain ⟨e, n, ne, nf, d⟩ := I.pin p hp
      exact ⟨(hs.2 p.1 ne).trans e, n, ne, nf, d⟩
  · have hfn : X.fn x = true := by
      rcases hf with z | z
      · exact z
      · rw [z] at hk; cases hk
    obtain ⟨c, hc⟩ := I.ok.has x (.inl hk)
    obtain ⟨w', z⟩ := I.cell x c hc
    refine wpAny_storeName_cell I.ok.kind hk hc z (fun h' hc' hs => ?_)
    obtain ⟨oc, hoc, hocd⟩ := id z
    refine h { s with heap := h' } ⟨I.ok, I.os, I.bare, ⟨fun b o e n hb hx => ?_, fun b o e n hb hx => ?_, I.base.free, fun b o e hx => ?_, I.base.tups, I.base.frzs, I.base.tbls⟩, ⟨m, hn.sameBut hs (Ne.symm (cne x c hc)), fun j y v' e1 e2 e3 => ?_⟩, fun y c' e => ?_, I.free, I.freeC, fun p hp => ?_, tracked ⟨oc, hoc, I.freeC x c hc⟩ hs, by simpa using I.len⟩ ⟨c, hs, .inr hc⟩
    · exact (hs.2 b (Nat.ne_of_lt (Nat.lt_of_lt_of_le (Heap.lt_size e) (I.ok.cab x c hfn hc)))).trans (I.base.keep b o e n hb hx)
    · obtain ⟨sl, e1⟩ := I.base.slot b o e n hb hx
      exact ⟨sl, (hs.2 b (Nat.ne_of_lt (Nat.lt_of_lt_of_le (Heap.lt_size e) (I.ok.cab x c hfn hc)))).trans e1⟩
    · obtain ⟨o', e1⟩ := I.base.there b o e hx
      exact ⟨o', (hs.2 b (Nat.ne_of_lt (Nat.lt_of_lt_of_le (Heap.lt_size e) (I.ok.cab x c hfn hc)))).trans e1⟩
    · by_cases hj : j = i
      · subst hj
        rw [hi] at e1; cases e1
        rw [List.getElem?_set_self hiσ] at e2
        cases e2
        exact ⟨u, r, .inr ⟨.inl hk, c, hc, hc'⟩⟩
      · rw [List.getElem?_set_ne (Ne.symm hj)] at e2
        obtain ⟨u', r', q⟩ := hl j y v' e1 e2 e3
        refine ⟨u', r', ?_⟩
        rcases q with q | ⟨k, c', e, z'⟩
        · exact .inl q
        · refine .inr ⟨k, c', e, z'.sameBut hs ?_⟩
          rintro rfl
          exact hj (nodup_ix hN e1 (I.ok.inj _ _ _ e hc ▸ hi))
    · by_cases hcc : c' = c
      · subst hcc; exact ⟨_, hc'⟩
      · obtain ⟨w2, z2⟩ := I.cell y c' e
        exact ⟨w2, z2.sameBut hs hcc⟩
    · obtain ⟨e, n, ne, nf, d⟩ := I.pin p hp
      refine ⟨(hs.2 p.1 ?_).trans e, n, ne, nf, d⟩
      intro q
      rw [q, hoc] at e
      have q' : oc = p.2 := Option.some.inj e
      exact d w' (by rw [← q']; exact hocd)
theorem store_ok {M : Model} {A : Around} {E : Value → Shared → Prop} {i : Nat} {x : Str} {v : V} {u : Value} {Q : Unit → Shared → Prop} (I : Inv X pins σ H s) (hN : X.N.Nodup) (hi : X.N[i]? = some x) (hx : Loc X.env.scope x) (r : RelV v u)
    (h : ∀ s', Inv X pins (σ.set i (some v)) H s' → Q () s') (hf : X.fn x = true ∨ X.env.scope.names.lookup x = some .local := by first | exact .inl rfl | exact .inr rfl | assumption) : wpAny M A (storeName X.env x u) Q E s :=
  store_ok2 I hN hi hx r (fun s' I' _ => h s' I') hf
/-- behind a call or a block, the state as it is -/
theorem Inv.call' {s' : Shared} {ch : List Addr} (I : Inv X pins σ H s) (ho : s'.os = s.os) (u : Un (frs X.stack) ch H H' s.heap s'.heap) (hok : HOk X.prog X.w H' s'.heap) (hg : AllBare s'.gens)
    (hch : ∀ b ∈ ch, (b ∈ X.ex ∨ X.s_0.heap.objs.size ≤ b) ∧ b ≠ X.env.locals ∧ (∀ x c, X.env.cells.lookup x = some c → c ≠ b) ∧ ∀ p ∈ X.pn ++ pins, p.1 ≠ b) : Inv X pins σ H' s' := by
  obtain ⟨h', g', d', t', o'⟩ := s'
  have e : o' = s.os := ho
  subst e
  exact I.call (g' := g') (t' := t') (d' := d') u hok hg hch
end

/-! ### the judgements -/
/-- an exception: its class, its own dict's address (where it has one), the abstract heap behind it -/
abbrev XK := Value → Option Addr → Hp → Prop
abbrev St := List (Option V)
abbrev VK := V → Hp → Prop
/-- an expression's reading; a test's; an argument list's -/
abbrev TE := St → Hp → VK → Prop
abbrev TT := St → Hp → (Bool → Hp → Prop) → Prop
abbrev TA := St → Hp → (List V → Hp → Prop) → Prop
/-- what is wanted behind a statement -/
structure Ends where
  nx : St → Hp → Prop
  rt : VK
  bk : St → Hp → Prop := fun _ _ => False
  ct : St → Hp → Prop := fun _ _ => False
abbrev TS := Ends → St → Hp → Prop

def EP (X : Cx) (pins : List (Addr × Obj)) (σ : St) (Q : VK) (u : Value) (s' : Shared) : Prop := ∃ v H', Inv X pins σ H' s' ∧ RelV v u ∧ Q v H'
def TP (X : Cx) (pins : List (Addr × Obj)) (σ : St) (Q : Bool → Hp → Prop) (b : Bool) (s' : Shared) : Prop := ∃ H', Inv X pins σ H' s' ∧ Q b H'
def AP (X : Cx) (pins : List (Addr × Obj)) (σ : St) (Q : List V → Hp → Prop) (us : List Value) (s' : Shared) : Prop := ∃ vs H', Inv X pins σ H' s' ∧ Vals vs us ∧ Q vs H'
def SP (X : Cx) (pins : List (Addr × Obj)) (D : Ends) (f : Flow) (s' : Shared) : Prop :=
  match f with
  | .next => ∃ σ' H', Inv X pins σ' H' s' ∧ D.nx σ' H'
  | .brk => ∃ σ' H', Inv X pins σ' H' s' ∧ D.bk σ' H'
  | .cont => ∃ σ' H', Inv X pins σ' H' s' ∧ D.ct σ' H'
  | .ret u => ∃ v σ' H', Inv X pins σ' H' s' ∧ RelV v u ∧ D.rt v H'

def PE (X : Cx) (e : Expr) (t : TE) : Prop :=
  ∀ (pins : List (Addr × Obj)) (s : Shared) (σ : St) (H : Hp) (Q : VK), Inv X pins σ H s → t σ H Q → wpAny (model X.prog X.w) X.A (eval e X.env) (EP X pins σ Q) X.xe s
def PT (X : Cx) (e : Expr) (t : TT) : Prop :=
  ∀ (pins : List (Addr × Obj)) (s : Shared) (σ : St) (H : Hp) (Q : Bool → Hp → Prop), Inv X pins σ H s → t σ H Q → wpAny (model X.prog X.w) X.A (isTrue e X.env (eval e X.env)) (TP X pins σ Q) X.xe s
/-- an argument list (no star), from the left -/
def PA (X : Cx) (es : List Expr) (t : TA) : Prop :=
  ∀ (pos : Pos) (pins : List (Addr × Obj)) (s : Shared) (σ : St) (H : Hp) (Q : List V → Hp → Prop), Inv X pins σ H s → t σ H Q → wpAny (model X.prog X.w) X.A (spliced (backTo pos (starEach es X.env))) (AP X pins σ Q) X.xe s
def PS (X : Cx) (st : Stmt) (t : TS) : Prop :=
  ∀ (pins : List (Addr × Obj)) (s : Shared) (σ : St) (H : Hp) (D : Ends), Inv X pins σ H s → t D σ H → wpAny (model X.prog X.w) X.A (exec st X.env) (SP X pins D) X.xe s
def PSs (X : Cx) (st : List Stmt) (t : TS) : Prop :=
  ∀ (pins : List (Addr × Obj)) (s : Shared) (σ : St) (H : Hp) (D : Ends), Inv X pins σ H s → t D σ H → wpAny (model X.prog X.w) X.A (execs st X.env) (SP X pins D) X.xe s
/-- weaken the end -/
theorem thn {α : Type} {t : Sem α} {Q Q' : α → Shared → Prop} {M : Model} {A : Around} {E : Value → Shared → Prop} {s : Shared} (h : wpAny M A t Q E s) (hQ : ∀ a s, Q a s → Q' a s) : wpAny M A t Q' E s := wpAny_mono h hQ fun _ _ x => x
end L2

namespace L2
open PySem PySem.Spec PyProof.Rows
section
variable {X : Cx}

/-! ### names and constants -/
def tVar (i : Nat) : TE := fun σ H Q => ∃ v, σ[i]? = some (some v) ∧ Q v H
def tC (v : V) : TE := fun _ H Q => Q v H
theorem pe_var {i : Nat} {x : Str} {pos : Pos} (hN : X.N[i]? = some x) (hv : Vis X.env.scope x) (hd : (x == ("__debug__" : Str)) = false := by decide) (hcd : (x == ("__classdict__" : Str)) = false := by decide) : PE X (.Name x pos) (tVar i) := by
  intro pins s σ H Q I h
  obtain ⟨v, e, h⟩ := h
  obtain ⟨m, hn, hl⟩ := I.loc
  obtain ⟨u, r, l⟩ := hl i x v hN e hv
  have fin : EP X pins σ Q u s := ⟨v, H, I, r, h⟩
  rcases l with ⟨hk, hm⟩ | ⟨hk, c, hc, hcell⟩
  · exact wpAny_Name (wpAny_loadName_local I.ok.kind hk hn hm fin) hd
  · rcases hk with hk | hk
    · exact wpAny_Name (wpAny_loadName_cell I.ok.kind hk hc hcell fin) hd
    · exact wpAny_Name (wpAny_loadName_free I.ok.kind hk hc hcell fin hcd) hd
theorem pe_int {i j pos} : PE X (.Constant (.int i) j pos) (tC (.int i)) := fun _ _ _ H _ I h => wpAny_Constant_int ⟨.int i, H, I.tok _, ⟨_, rfl⟩, h⟩
theorem pe_non {j pos} : PE X (.Constant .none j pos) (tC .non) := fun _ _ _ H _ I h => Constant_none ⟨.non, H, I, rfl, h⟩
/-- a global name of the def -/
def Gl (X : Cx) (x : Str) : Prop := X.env.kindOf x = some .globalImplicit
theorem ld_glob {E : Value → Shared → Prop} {pins : List (Addr × Obj)} {s : Shared} {σ : St} {H : Hp} {x : Str} {u : Value} {pos : Pos} {Q : Value → Shared → Prop} (I : Inv X pins σ H s) (hg : Gl X x) (hm : X.mg x = some u) (h : Q u s)
    (hd : (x == ("__debug__" : Str)) = false := by decide) : wpAny (model X.prog X.w) X.A (eval (.Name x pos) X.env) Q E s :=
  Calls.Name_function_global I.ok.kind hg (Calls.loadGlobal_global (by rw [I.ok.glob]; exact I.mod.glob.keeps I.bk) hm h) hd
theorem ld_blt {E : Value → Shared → Prop} {pins : List (Addr × Obj)} {s : Shared} {σ : St} {H : Hp} {x : Str} {u : Value} {pos : Pos} {Q : Value → Shared → Prop} (I : Inv X pins σ H s) (hg : Gl X x) (hm : X.mg x = none) (hv : bootBuiltins x = some u) (h : Q u s)
    (hn : x ≠ "__name__" := by decide) (hd : (x == ("__debug__" : Str)) = false := by decide) : wpAny (model X.prog X.w) X.A (eval (.Name x pos) X.env) Q E s := by
  obtain ⟨mb, h1, h2⟩ := I.mod.blt
  exact Calls.Name_function_global I.ok.kind hg (Calls.loadGlobal_builtin (by rw [I.ok.glob]; exact I.mod.glob.keeps I.bk) hm (by rw [I.ok.blt]; exact h1.keeps I.bk) ((h2 x hn).trans hv) h) hd
/-- a module's constant, a class, a function, as a value -/
theorem pe_glob {x : Str} {v : V} {u : Value} {pos : Pos} (hg : Gl X x) (hm : X.mg x = some u) (r : RelV v u) (hd : (x == ("__debug__" : Str)) = false := by decide) : PE X (.Name x pos) (tC v) :=
  fun _ _ _ H _ I h => ld_glob I hg hm ⟨v, H, I, r, h⟩ hd
/-! ### arithmetic -/
/-- two ints -/
def t2I (ta tb : TE) (k : Int → Int → Hp → Prop) : St → Hp → Prop := fun σ H => ta σ H fun x H1 => tb σ H1 fun y H2 => ∃ i j, x = .int i ∧ y = .int j ∧ k i j H2
variable {a b : Expr} {ta tb : TE} {pos : Pos}
/-! ### comparisons -/
def PC (X : Cx) (op : CmpOp) (a b : Expr) (t : TE) : Prop :=
  ∀ (pins : List (Addr × Obj)) (s : Shared) (σ : St) (H : Hp) (Q : VK), Inv X pins σ H s → t σ H Q →
    wpAny (model X.prog X.w) X.A (eval a X.env) (fun v s₁ => wpAny (model X.prog X.w) X.A (eval b X.env) (fun u s₂ => wpAny (model X.prog X.w) X.A (compareOp op v u) (EP X pins σ Q) X.xe s₂) X.xe s₁) X.xe s
theorem nobehind (b : Expr) {op : CmpOp} (h : op ≠ .In) (h2 : op ≠ .NotIn) : behindInMarks op b = false := by
  have e1 : (op == CmpOp.In) = false := by cases op <;> first | rfl | exact absurd rfl h
  have e2 : (op == CmpOp.NotIn) = false := by cases op <;> first | rfl | exact absurd rfl h2
  cases b <;> simp [behindInMarks, e1, e2]
def tCmp (p : Int → Int → Bool) (ta tb : TE) : TE := fun σ H Q => t2I ta tb (fun i j H2 => Q (.bl (p i j)) H2) σ H
abbrev tLt : TE → TE → TE := tCmp fun i j => decide (i < j)
abbrev tLe : TE → TE → TE := tCmp fun i j => decide (i ≤ j)
abbrev tGt : TE → TE → TE := tCmp fun i j => decide (j < i)
abbrev tGe : TE → TE → TE := tCmp fun i j => decide (j ≤ i)
abbrev tEqI : TE → TE → TE := tCmp fun i j => decide (i = j)
abbrev tNeI : TE → TE → TE := tCmp fun i j => !decide (i = j)
/-- is None -/
def tIsN (ta : TE) : TE := fun σ H Q => ta σ H fun x H1 => Q (.bl (decide (x = .non))) H1
theorem RelV.none_iff {x : V} {v : Value} (r : RelV x v) : (v == Value.none) = decide (x = .non) := by
  cases x with
  | non => cases r; rfl
  | bl _ => cases r; rfl
  | int _ => obtain ⟨t, rfl⟩ := r; rfl
  | str _ => obtain ⟨t, rfl⟩ := r; rfl
  | byt _ => obtain ⟨t, rfl⟩ := r; rfl
  | flt _ => obtain ⟨t, rfl⟩ := r; rfl
  | ref _ => cases r; rfl
  | ty _ => cases r; rfl
theorem pc_isN {j pos'} (ha : PE X a ta) : PC X .Is a (.Constant .none j pos') (tIsN ta) := by
  intro pins s σ H Q I h
  refine thn (ha pins s σ H _ I h) fun v s1 ⟨x, H1, I1, r1, q1⟩ => ?_
  exact Constant_none (is_none_gen ⟨.bl _, H1, I1, by rw [r1.none_iff]; rfl, q1⟩)
/-- a comparison as a value, as a test -/
def tB (t : TE) : TT := fun σ H Q => t σ H fun x H1 => ∃ c, x = .bl c ∧ Q c H1
theorem pt_cmp {op : CmpOp} {t : TE} (h : PC X op a b t) (h1 : behindInMarks op b = false := by first | exact nobehind _ (by decide) (by decide) | rfl) : PT X (.Compare a [op] [b] pos) (tB t) := by
  intro pins s σ H Q I hw
  refine wpAny_isTrue_Compare1 (thn (h pins s σ H _ I hw) fun v s1 h1 => thn h1 fun u s2 h2 => thn h2 fun c s3 ⟨x, H1, I1, r1, q1⟩ => ?_) h1
  obtain ⟨d, rfl, q⟩ := q1
  cases r1
  exact wpAny_truthy_bool ⟨H1, I1, q⟩
/-- an expression whose value is a bool, as a test -/
theorem pt_val {e : Expr} {t : TE} (h : PE X e t) (he : ∀ whole, isTrue e X.env whole = (do let v ← whole; standAt e.pos; holding [v] (truthy v)) := by intro _; rfl) : PT X e (tB t) := by
  intro pins s σ H Q I hw
  refine isTrue_plain (thn (h pins s σ H _ I hw) fun v s1 ⟨x, H1, I1, r1, q1⟩ => ?_) (he _)
  obtain ⟨d, rfl, q⟩ := q1
  cases r1
  exact wpAny_truthy_bool ⟨H1, I1, q⟩

/-! ### and, or, not -/
variable {tA tB' : TT} {rest : List Expr}
def tNot (t : TT) : TT := fun σ H Q => t σ H fun c H1 => Q (!c) H1
theorem pt_not (ha : PT X a tA) : PT X (.UnaryOp .Not a pos) (tNot tA) := by
  intro pins s σ H Q I h
  exact isTrue_not (ha pins s σ H (fun c H1 => Q (!c) H1) I h)
/-- .. as values (bools) -/
def tAndV (ta tb : TE) : TE := fun σ H Q => ta σ H fun x H1 => ∃ c, x = .bl c ∧ if c = true then tb σ H1 Q else Q (.bl false) H1
theorem pe_one {op} {t : TE} (h : PE X a t) : PE X (.BoolOp op [a] pos) t := fun pins s σ H Q I hw => BoolOp_one (h pins s σ H Q I hw)
theorem pe_and (ha : PE X a ta) (hb : PE X (.BoolOp .And (b :: rest) pos) tb) : PE X (.BoolOp .And (a :: b :: rest) pos) (tAndV ta tb) := by
  intro pins s σ H Q I h
  refine BoolOp_and (thn (ha pins s σ H _ I h) fun v s1 ⟨x, H1, I1, r1, q1⟩ => ?_)
  obtain ⟨c, rfl, q1⟩ := q1
  cases r1
  refine wpAny_truthy_bool ?_
  cases c with
  | true => exact hb pins s1 σ H1 Q I1 q1
  | false => exact ⟨.bl false, H1, I1, rfl, q1⟩
end
end L2

namespace L2
open PySem PySem.Spec PyProof.Rows

/-! ### a list, a tuple that is read: tracked, frozen, or an object of the module -/
def SqL (K : PySem.W.Frag) (H : Hp) (a : Addr) (xs : List V) : Prop :=
  Rd H a (.lst xs) ∨
    ∃ (o : Obj) (its : Array Value) (n : Nat), K.lookup a = some o ∧ o.cls = .type "list" ∧ o.dict = none ∧ o.data = .seq its n ∧ its.size ≤ sizeLine ∧ Vals xs its.toList
def SqT (K : PySem.W.Frag) (H : Hp) (a : Addr) (xs : List V) : Prop :=
  Rd H a (.tup xs) ∨
    ∃ (o : Obj) (its : Array Value) (n : Nat), K.lookup a = some o ∧ o.cls = .type "tuple" ∧ o.data = .seq its n ∧ its.size ≤ sizeLine ∧ Vals xs its.toList
def absV : Value → Option V
  | .none => some .non
  | .bool b => some (.bl b)
  | .int i _ => some (.int i)
  | .str x _ => some (.str x)
  | .bytes b _ => some (.byt b)
  | .float b _ => some (.flt b)
  | .ref a => some (.ref a)
  | .type n => some (.ty n)
  | _ => none
theorem RelV.abs {x : V} {u : Value} (r : RelV x u) : absV u = some x := by
  cases x with
  | non => cases r; rfl
  | bl _ => cases r; rfl
  | int _ => obtain ⟨t, rfl⟩ := r; rfl
  | str _ => obtain ⟨t, rfl⟩ := r; rfl
  | byt _ => obtain ⟨t, rfl⟩ := r; rfl
  | flt _ => obtain ⟨t, rfl⟩ := r; rfl
  | ref _ => cases r; rfl
  | ty _ => cases r; rfl
theorem RelV.inj {x y : V} {u : Value} (r : RelV x u) (q : RelV y u) : x = y := Option.some.inj (r.abs.symm.trans q.abs)
theorem Vals.inj : ∀ {xs ys : List V} {us : List Value}, Vals xs us → Vals ys us → xs = ys
  | _, _, _, .nil, .nil => rfl
  | _, _, _, .cons r t, .cons r' t' => by rw [r.inj r', Vals.inj t t']
section
variable {X : Cx} {pins : List (Addr × Obj)} {σ : St} {H : Hp} {s : Shared} {a : Addr} {xs ys : List V}
theorem SqL.of {K : PySem.W.Frag} (h : H a = some (.lst xs)) : SqL K H a xs := .inl (.inl h)
theorem SqT.of {K : PySem.W.Frag} (h : H a = some (.tup xs)) : SqT K H a xs := .inl (.inl h)
theorem Inv.list (I : Inv X pins σ H s) (h : SqL X.K H a xs) : ∃ its : List Value, Vals xs its ∧ PlainL s.heap a its.toArray ∧ xs.length ≤ sizeLine := by
  rcases h with h | ⟨o, its, n, hk, hc, hd, hs, hz, r⟩
  · obtain ⟨z, its, n, r, e⟩ := h.ok I.hok
    exact ⟨its, r, ⟨_, n, e, rfl, rfl, rfl⟩, z⟩
  · refine ⟨its.toList, r, ⟨o, n, I.kIn a o hk, hc, hd, by simpa using hs⟩, ?_⟩
    have e := r.length
    simp only [Array.length_toList] at e
    omega
theorem Inv.tuple (I : Inv X pins σ H s) (h : SqT X.K H a xs) : ∃ its : List Value, Vals xs its ∧ IsTup s.heap a its.toArray ∧ xs.length ≤ sizeLine := by
  rcases h with h | ⟨o, its, n, hk, hc, hs, hz, r⟩
  · obtain ⟨z, its, r, p⟩ := h.ok I.hok
    exact ⟨its, r, p, z⟩
  · refine ⟨its.toList, r, ⟨o, I.kIn a o hk, hc, n, by simpa using hs⟩, ?_⟩
    have e := r.length
    simp only [Array.length_toList] at e
    omega
theorem Inv.list_inj (I : Inv X pins σ H s) (h : SqL X.K H a xs) (h' : SqL X.K H a ys) : xs = ys := by
  obtain ⟨its, r, ⟨o, n, e, _, _, d⟩, _⟩ := I.list h
  obtain ⟨its', r', ⟨o', n', e', _, _, d'⟩, _⟩ := I.list h'
  rw [e] at e'; cases e'
  rw [d] at d'
  injection d' with d1 _
  have : its = its' := by simpa using congrArg Array.toList d1
  subst this
  exact r.inj r'
end

/-! ### another wish about exceptions -/
abbrev Cx.wish (X : Cx) (E : Value → Shared → Prop) : Cx := { X with xe := E }
/-- no exception leaves -/
abbrev Cx.nox (X : Cx) : Cx := X.wish fun _ _ => False
theorem Cx.Ok.wish {X : Cx} (ok : X.Ok) (E : Value → Shared → Prop) : (X.wish E).Ok :=
  ⟨ok.mod, ok.kind, ok.glob, ok.blt, ok.above, ok.inj, ok.has, ok.cab, ok.hd, ok.frames, ok.stk, ok.exf, ok.bs, ok.bsz, ok.noex, ok.exfs, ok.funs, ok.frf⟩
theorem Cx.Ok.unwish {X : Cx} {E : Value → Shared → Prop} (ok : (X.wish E).Ok) : X.Ok :=
  ⟨ok.mod, ok.kind, ok.glob, ok.blt, ok.above, ok.inj, ok.has, ok.cab, ok.hd, ok.frames, ok.stk, ok.exf, ok.bs, ok.bsz, ok.noex, ok.exfs, ok.funs, ok.frf⟩
section
variable {X : Cx} {pins : List (Addr × Obj)} {σ : St} {H : Hp} {s : Shared} {E : Value → Shared → Prop}
theorem Inv.wish (I : Inv X pins σ H s) (E : Value → Shared → Prop) : Inv (X.wish E) pins σ H s := ⟨I.ok.wish E, I.os, I.bare, I.base, I.loc, I.cell, I.free, I.freeC, I.pin, I.hok, I.len⟩
theorem Inv.unwish (I : Inv (X.wish E) pins σ H s) : Inv X pins σ H s := ⟨I.ok.unwish, I.os, I.bare, I.base, I.loc, I.cell, I.free, I.freeC, I.pin, I.hok, I.len⟩
theorem SP.unwish {D : Ends} {f : Flow} {s' : Shared} (h : SP (X.wish E) pins D f s') : SP X pins D f s' := by
  cases f with
  | next => obtain ⟨σ', H', I, q⟩ := h; exact ⟨σ', H', I.unwish, q⟩
  | brk => obtain ⟨σ', H', I, q⟩ := h; exact ⟨σ', H', I.unwish, q⟩
  | cont => obtain ⟨σ', H', I, q⟩ := h; exact ⟨σ', H', I.unwish, q⟩
  | ret u => obtain ⟨v, σ', H', I, r, q⟩ := h; exact ⟨v, σ', H', I.unwish, r, q⟩
theorem PSs.nox {st : List Stmt} {t : TS} (h : PSs X.nox st t) : PSs X st t := fun pins s σ H D I hw =>
  wpAny_mono (h pins s σ H D (I.wish _) hw) (fun _ _ q => q.unwish) fun _ _ z => False.elim z
end

/-! ### blocks and small statements -/
section
variable {X : Cx} {st : Stmt} {rest : List Stmt} {t u : TS} {e : Expr} {te : TE} {pos : Pos}
def tNext : TS := fun D σ H => D.nx σ H
def tSeq (t u : TS) : TS := fun D σ H => t { D with nx := u D } σ H
theorem pss_nil : PSs X [] tNext := fun _ _ σ H _ I h => wpAny_execs_nil ⟨σ, H, I, h⟩
theorem pss_cons (h1 : PS X st t) (h2 : PSs X rest u) : PSs X (st :: rest) (tSeq t u) := by
  intro pins s σ H D I h
  refine wpAny_execs_cons (thn (h1 pins s σ H { D with nx := u D } I h) fun f s1 q => ?_)
  cases f with
  | next =>
    obtain ⟨σ', H', I', q⟩ := q
    exact h2 pins s1 σ' H' D I' q
  | ret v => exact q
  | brk => exact q
  | cont => exact q
theorem pss_one (h1 : PS X st t) : PSs X [st] t := by
  intro pins s σ H D I h
  refine wpAny_execs_cons (thn (h1 pins s σ H D I h) fun f s1 q => ?_)
  cases f with
  | next => exact wpAny_execs_nil q
  | ret v => exact q
  | brk => exact q
  | cont => exact q
/-- in a def's body nothing is shown -/
theorem Inv.quiet {pins : List (Addr × Obj)} {σ : St} {H : Hp} {s : Shared} (I : Inv X pins σ H s) : interactive X.env = false := by simp [interactive, I.ok.kind]
/-- an expression whose value is dropped -/
def tDrop (te : TE) : TS := fun D σ H => te σ H fun _ H1 => D.nx σ H1
theorem ps_expr (he : PE X e te) (hs : swapsWith e none pos.line X.env = pure false := by rfl) : PS X (.Expr e pos) (tDrop te) := by
  intro pins s σ H D I h
  exact wpAny_Expr_any (thn (he pins s σ H _ I h) fun v s1 ⟨x, H1, I1, r1, q1⟩ => ⟨σ, H1, I1, q1⟩) I.quiet hs
def tRet (te : TE) : TS := fun D σ H => te σ H D.rt
theorem ps_ret (he : PE X e te) : PS X (.Return (some e) pos) (tRet te) := by
  intro pins s σ H D I h
  exact wpAny_Return_some (thn (he pins s σ H _ I h) fun v s1 ⟨x, H1, I1, r1, q1⟩ => ⟨x, σ, H1, I1, r1, q1⟩)
def tIfS (c : TT) (t u : TS) : TS := fun D σ H => c σ H fun b H1 => if b = true then t D σ H1 else u D σ H1
theorem ps_if {c : Expr} {a b : List Stmt} {tc : TT} (hc : PT X c tc) (ha : PSs X a t) (hb : PSs X b u) : PS X (.If c a b pos) (tIfS tc t u) := by
  intro pins s σ H D I h
  refine wpAny_If (thn (hc pins s σ H _ I h) fun d s1 ⟨H1, I1, q1⟩ => ?_)
  cases d with
  | true => exact ha pins s1 σ H1 D I1 q1
  | false => exact hb pins s1 σ H1 D I1 q1
end

/-! ### targets -/
abbrev TG := V → St → Hp → (St → Hp → Prop) → Prop
abbrev TGs := List V → St → Hp → (St → Hp → Prop) → Prop
def PG (X : Cx) (target : Expr) (t : TG) : Prop :=
  ∀ (pins : List (Addr × Obj)) (s : Shared) (σ : St) (H : Hp) (v : V) (u : Value) (Q : St → Hp → Prop), Inv X pins σ H s → RelV v u → t v σ H Q →
    wpAny (model X.prog X.w) X.A (assign target X.env u) (fun _ s' => ∃ σ' H', Inv X pins σ' H' s' ∧ Q σ' H') X.xe s
/-- several targets, one after another -/
def PGs (X : Cx) (ts : List Expr) (t : TGs) : Prop :=
  ∀ (pins : List (Addr × Obj)) (s : Shared) (σ : St) (H : Hp) (vs : List V) (us : List Value) (Q : St → Hp → Prop), Inv X pins σ H s → Vals vs us → t vs σ H Q →
    wpAny (model X.prog X.w) X.A (assignInOrder ((assignEach ts X.env).map (·.2)) us) (fun _ s' => ∃ σ' H', Inv X pins σ' H' s' ∧ Q σ' H') X.xe s
/-- o[i] = v, by values -/
abbrev TSet := V → V → V → Hp → (Hp → Prop) → Prop
/-- a op= b, by values -/
abbrev TIp := V → V → Hp → VK → Prop
def PIp (X : Cx) (op : Operator) (t : TIp) : Prop :=
  ∀ (pins : List (Addr × Obj)) (s : Shared) (σ : St) (H : Hp) (x y : V) (v u : Value) (Q : VK), Inv X pins σ H s → RelV x v → RelV y u → t x y H Q →
    wpAny (model X.prog X.w) X.A (inplaceOp op v u) (EP X pins σ Q) X.xe s
section
variable {X : Cx} {pos : Pos}
def gName (i : Nat) : TG := fun v σ H Q => Q (σ.set i (some v)) H
theorem pg_name {i : Nat} {x : Str} (hN : X.N.Nodup) (hi : X.N[i]? = some x) (hx : Loc X.env.scope x) (hf : X.fn x = true ∨ X.env.scope.names.lookup x = some .local := by first | exact .inl rfl | exact .inr rfl | assumption) : PG X (.Name x pos) (gName i) := by
  intro pins s σ H v u Q I r h
  exact wpAny_assign_Name (store_ok I hN hi hx r (fun s' I' => ⟨_, H, I', h⟩) hf)
def gNil : TGs := fun vs σ H Q => vs = [] ∧ Q σ H
def gCons (t : TG) (u : TGs) : TGs := fun vs σ H Q => ∃ v r, vs = v :: r ∧ t v σ H fun σ' H' => u r σ' H' Q
theorem pgs_nil : PGs X [] gNil := by
  intro pins s σ H vs us Q I r h
  obtain ⟨e, h⟩ := h
  subst e
  cases r
  exact assignInOrder_nil ⟨σ, H, I, h⟩
theorem pgs_cons {e : Expr} {es : List Expr} {t : TG} {u : TGs} (h1 : PG X e t) (h2 : PGs X es u)
    (hs : (assignEach (e :: es) X.env).map (·.2) = assign e X.env :: (assignEach es X.env).map (·.2) := by rfl) : PGs X (e :: es) (gCons t u) := by
  intro pins s σ H vs us Q I r h
  obtain ⟨v, vr, e1, h⟩ := h
  subst e1
  cases r with
  | cons r rr =>
    rw [hs]
    refine assignInOrder_cons (thn (h1 pins s σ H _ _ _ I r h) fun _ s1 ⟨σ1, H1, I1, q1⟩ => ?_)
    exact h2 pins s1 σ1 H1 _ _ Q I1 rr q1
/-- (a, b, ..) = a tuple of that length -/
def gTup (K : PySem.W.Frag) (n : Nat) (t : TGs) : TG := fun v σ H Q => ∃ a xs, v = .ref a ∧ SqT K H a xs ∧ xs.length = n ∧ t xs σ H Q
theorem pg_tup {es : List Expr} {k : Nat} {t : TGs} {n : Nat} (hc : X.calm = true) (h : PGs X es t)
    (hn : (assignEach es X.env).length = n := by rfl) (hst : (assignEach es X.env).findIdx? (·.1) = none := by rfl) : PG X (.Tuple es k pos) (gTup X.K n t) := by
  intro pins s σ H v u Q I r hw
  obtain ⟨a, xs, e1, hq, hl, hw⟩ := hw
  subst e1
  cases r
  obtain ⟨its, rv, ht, hz⟩ := I.tuple hq
  refine assign_Tuple_tuple (I.ok.hd hc) ht (by simp [hn, ← hl, rv.length]) hst fun h' hx => ?_
  have I1 : Inv X pins σ H { s with heap := h' } := I.kept (t' := s.toks) fun b o e => hx b o (Nat.ne_of_lt (Heap.lt_size e)) e
  exact h pins _ σ H xs _ Q I1 (by simpa using rv) hw
/-- target = value -/
def tAsg (te : TE) (g : TG) : TS := fun D σ H => te σ H fun x H1 => g x σ H1 D.nx
/-- name = value -/
theorem ps_set {i : Nat} {x : Str} {e : Expr} {te : TE} {pos' : Pos} (hN : X.N.Nodup) (hi : X.N[i]? = some x) (hx : Loc X.env.scope x) (he : PE X e te) (hs : swapsWith e (some (.Name x pos')) pos.line X.env = pure false := by rfl) (hf : X.fn x = true ∨ X.env.scope.names.lookup x = some .local := by first | exact .inl rfl | exact .inr rfl | assumption) :
    PS X (.Assign [.Name x pos'] e pos) (tAsg te (gName i)) := by
  intro pins s σ H D I h
  refine wpAny_Assign_Name (thn (he pins s σ H _ I h) fun v s1 ⟨y, H1, I1, r1, q1⟩ => ?_) hs
  exact store_ok I1 hN hi hx r1 (fun s2 I2 => ⟨_, H1, I2, q1⟩) hf
/-- name op= e -/
def tAug (i : Nat) (te : TE) (ti : TIp) : TS := fun D σ H => ∃ x, σ[i]? = some (some x) ∧ te σ H fun y H1 => ti x y H1 fun z H2 => D.nx (σ.set i (some z)) H2
theorem ps_aug {i : Nat} {x : Str} {e : Expr} {te : TE} {op : Operator} {ti : TIp} {pos' : Pos} (hN : X.N.Nodup) (hi : X.N[i]? = some x) (hx : Loc X.env.scope x) (he : PE X e te) (ho : PIp X op ti) (hf : X.fn x = true ∨ X.env.scope.names.lookup x = some .local := by first | exact .inl rfl | exact .inr rfl | assumption) :
    PS X (.AugAssign (.Name x pos') op e pos) (tAug i te ti) := by
  intro pins s σ H D I h
  obtain ⟨v, e1, h⟩ := h
  obtain ⟨m, hn, hl⟩ := I.loc
  have vis : Vis X.env.scope x := by rcases hx with k | k; exact .inl k; exact .inr (.inl k)
  obtain ⟨u, r, l⟩ := hl i x v hi e1 vis
  refine wpAny_AugAssign_Name ?_
  have go : wpAny (model X.prog X.w) X.A (eval e X.env) (fun w s₂ => wpAny (model X.prog X.w) X.A (inplaceOp op u w) (fun r s₃ => wpAny (model X.prog X.w) X.A (storeName X.env x r) (fun _ => SP X pins D .next) X.xe s₃) X.xe s₂) X.xe s := by
    refine thn (he pins s σ H _ I h) fun w s1 ⟨y, H1, I1, r1, q1⟩ => ?_
    refine thn (ho pins s1 σ H1 v y u w _ I1 r r1 q1) fun z s2 ⟨zv, H2, I2, r2, q2⟩ => ?_
    exact store_ok I2 hN hi hx r2 (fun s3 I3 => ⟨_, H2, I3, q2⟩) hf
  rcases l with ⟨hk, hm⟩ | ⟨hk, c, hc, hcell⟩
  · exact wpAny_loadName_local I.ok.kind hk hn hm go
  · rcases hk with hk | hk
    · exact wpAny_loadName_cell I.ok.kind hk hc hcell go
    · rcases hx with k | k
      · have : X.env.scope.names.lookup x = some .free := hk
        rw [k] at this; cases this
      · have : X.env.scope.names.lookup x = some .free := hk
        rw [k] at this; cases this
/-- ints -/
def ipI (f : Int → Int → Int) : TIp := fun x y H Q => ∃ i j, x = .int i ∧ y = .int j ∧ Q (.int (f i j)) H
theorem ip_add : PIp X .Add (ipI fun i j => i + j) := by
  intro pins s σ H x y v u Q I r1 r2 h
  obtain ⟨i, j, e1, e2, q⟩ := h
  subst e1; subst e2
  obtain ⟨t, rfl⟩ := r1
  obtain ⟨t', rfl⟩ := r2
  exact iadd_int ⟨.int _, H, I.tok _, ⟨_, rfl⟩, q⟩
end

/-! ### while -/
section
variable {X : Cx} {pos : Pos}
/-- the invariant W with its measure -/
def tWhile (c : TT) (tb : TS) : TS := fun D σ H => ∃ W : Nat → St → Hp → Prop, (∃ m, W m σ H) ∧ ∀ m σ H, W m σ H →
  c σ H fun b H1 => if b = true then ∃ N : St → Hp → Prop, (∀ σ' H', N σ' H' → ∃ m', m' < m ∧ W m' σ' H') ∧ tb { D with nx := N, ct := N, bk := D.nx } σ H1 else D.nx σ H1
theorem ps_while {c : Expr} {body : List Stmt} {tc : TT} {tb : TS} (hp : PassesOwn (model X.prog X.w) X.A X.env X.xe) (hc : PT X c tc) (hb : PSs X body tb) : PS X (.While c body [] pos) (tWhile tc tb) := by
  intro pins s σ H D I h
  obtain ⟨W, ⟨m0, w0⟩, turn⟩ := h
  refine wpAny_While (codeAny_whileLoop (fun n s' => ∃ σ' H', Inv X pins σ' H' s' ∧ W n σ' H') ?_ m0 ⟨σ, H, I, w0⟩)
  rintro n s1 ⟨σ1, H1, I1, w1⟩
  refine wpAny_passesOwn hp (thn (hc pins s1 σ1 H1 _ I1 (turn n σ1 H1 w1)) fun b s2 ⟨H2, I2, q2⟩ => ?_)
  cases b with
  | true =>
    obtain ⟨N, hN, q2⟩ := q2
    rw [if_pos rfl]
    refine wpAny_passesOwn hp (thn (hb pins s2 σ1 H2 _ I2 q2) fun f s3 q3 => ?_)
    cases f with
    | next =>
      obtain ⟨σ3, H3, I3, n3⟩ := q3
      obtain ⟨m', hm, w3⟩ := hN σ3 H3 n3
      exact ⟨m', hm, σ3, H3, I3, w3⟩
    | cont =>
      obtain ⟨σ3, H3, I3, n3⟩ := q3
      obtain ⟨m', hm, w3⟩ := hN σ3 H3 n3
      exact ⟨m', hm, σ3, H3, I3, w3⟩
    | brk => exact q3
    | ret v => exact q3
  | false =>
    rw [if_neg Bool.false_ne_true]
    exact wpAny_execs_nil ⟨σ1, H2, I2, q2⟩
end

/-! ### what a loop or a comprehension walks -/
/-- at turn i: it yields x (the heap may grow), or it stops -/
structure It where
  go : Nat → Hp → Prop
  yld : Nat → Hp → V → Hp → Prop
  stop : Nat → Hp → Prop
/-- the iterator's own objects may turn: they are not the frame's, not pinned, younger than the entry (or a comprehension's own) -/
def FpOk (X : Cx) (pins : List (Addr × Obj)) (H : Hp) (b : Addr) : Prop :=
  H b = none ∧ b ≠ X.env.locals ∧ b ∉ X.fs ∧ (b ∈ X.ex ∨ X.s_0.heap.objs.size ≤ b) ∧ (∀ x c, X.env.cells.lookup x = some c → c ≠ b) ∧ ∀ p ∈ X.pn ++ pins, p.1 ≠ b
theorem Inv.fpOk {X : Cx} {pins : List (Addr × Obj)} {σ : St} {H H' : Hp} {s : Shared} {b : Addr} (I : Inv X pins σ H s) (hb : s.heap.objs.size ≤ b) (hn : H' b = none) : FpOk X pins H' b := by
  refine ⟨hn, Nat.ne_of_gt (Nat.lt_of_lt_of_le I.lt hb), I.nofs hb, .inr (Nat.le_trans I.sz hb), fun x c e z => ?_, fun p hp z => ?_⟩
  · obtain ⟨v, q⟩ := I.cell x c e
    exact absurd (Nat.lt_of_lt_of_le q.lt (by rw [z]; exact hb)) (Nat.lt_irrefl _)
  · exact absurd (Nat.lt_of_lt_of_le (Heap.lt_size (I.pin p hp).1) (by rw [z]; exact hb)) (Nat.lt_irrefl _)
structure Turn (P : Program) (w : World) (K : PySem.W.Frag) (tg : Expr) (J : It) (fp : List Addr) (it : Addr) (tn : Nat → Heap → Prop) : Prop where
  mem : it ∈ fp
  obj : ∀ i h, tn i h → ∀ b ∈ fp, ∃ o, h.get? b = some o ∧ ∀ v, o.data ≠ .cell v
  keep : ∀ i h h', tn i h → (∀ b ∈ fp, ∀ o, h.get? b = some o → h'.get? b = some o) → tn i h'
  item : ∀ (X : Cx), X.prog = P → X.w = w → X.K = K → X.calm = true → ∀ (i : Nat) (pins : List (Addr × Obj)) (s : Shared) (σ : St) (H : Hp) (E : Value → Shared → Prop), Inv X pins σ H s → (∀ b ∈ fp, FpOk X pins H b) → tn i s.heap → J.go i H →
    wpAny (model P w) X.A (pyNext (.ref it)) (fun r s1 => ∃ u, r = some u ∧
      wpAny (model P w) X.A (letOwnedTupleGo tg (.ref it) u) (fun _ s2 => ∃ x H', Inv X pins σ H' s2 ∧ RelV x u ∧ J.yld i H x H' ∧ tn (i + 1) s2.heap ∧ ∀ b ∈ fp, H' b = none) E s1) E s
  done : ∀ (X : Cx), X.prog = P → X.w = w → X.K = K → X.calm = true → ∀ (i : Nat) (pins : List (Addr × Obj)) (s : Shared) (σ : St) (H : Hp) (E : Value → Shared → Prop), Inv X pins σ H s → (∀ b ∈ fp, FpOk X pins H b) → tn i s.heap → J.stop i H →
    wpAny (model P w) X.A (pyNext (.ref it)) (fun r s1 => r = none ∧ Inv X pins σ H s1) E s
  self : ∀ (A : Around) (i : Nat) (s : Shared) (Q : Value → Shared → Prop) (E : Value → Shared → Prop), tn i s.heap → Q (.ref it) s → wpAny (model P w) A (pyIter (.ref it)) Q E s
abbrev TI := St → Hp → (It → Hp → Prop) → Prop
/-- an iterator has come -/
def PIE (X : Cx) (pins : List (Addr × Obj)) (σ : St) (tg : Expr) (R : It → Hp → Prop) (itv : Value) (s2 : Shared) : Prop :=
  ∃ (it : Addr) (fp : List Addr) (tn : Nat → Heap → Prop) (J : It) (H' : Hp), itv = .ref it ∧ Inv X pins σ H' s2 ∧ Turn X.prog X.w X.K tg J fp it tn ∧ tn 0 s2.heap ∧ (∀ b ∈ fp, FpOk X pins H' b) ∧ R J H'
def PI (X : Cx) (tg iter : Expr) (wi : TI) : Prop :=
  ∀ (pins : List (Addr × Obj)) (s : Shared) (σ : St) (H : Hp) (R : It → Hp → Prop), Inv X pins σ H s → wi σ H R →
    wpAny (model X.prog X.w) X.A (eval iter X.env) (fun v s1 => wpAny (model X.prog X.w) X.A (pyIter v) (PIE X pins σ tg R) X.xe s1) X.xe s

/-- the step ahead of the store is nothing for an iterator that keeps no tuple -/
theorem go_of {M : Model} {A : Around} {E : Value → Shared → Prop} {s : Shared} {tg : Expr} {it : Addr} {u : Value} {o : Obj} {n : String} {vs : Array Value} {Q : Unit → Shared → Prop} (ho : s.heap.get? it = some o) (hc : o.cls = .type n) (hd : o.data = .fields vs)
    (hn : ["enumerate", "zip", "dict_itemiterator", "dict_reverseitemiterator", "odict_iterator", "itertools.zip_longest", "itertools.pairwise"].contains n = false) (hQ : Q () s) : wpAny M A (letOwnedTupleGo tg (.ref it) u) Q E s := by
  unfold letOwnedTupleGo
  cases tg <;> first
    | exact wpAny_pure hQ
    | (cases u <;> first
        | exact wpAny_pure hQ
        | (refine wpAny_bind (wpAny_load ho ?_)
           rw [hc, hd]
           show wpAny M A (if (["enumerate", "zip", "dict_itemiterator", "dict_reverseitemiterator", "odict_iterator", "itertools.zip_longest", "itertools.pairwise"].contains n && vs[0]? == some (rawInt _)) = true then _ else _) Q E s
           rw [if_neg (by intro h; rw [hn, Bool.false_and] at h; cases h)]
           exact wpAny_pure hQ))

/-- the list at a, as it stands at each turn (a loop may append to it) -/
def Itl (K : PySem.W.Frag) (a : Addr) : It :=
  ⟨fun i H => ∃ xs x, SqL K H a xs ∧ xs[i]? = some x, fun i H x H' => H' = H ∧ ∀ xs, SqL K H a xs → xs[i]? = some x, fun i H => ∃ xs, SqL K H a xs ∧ xs.length ≤ i⟩
/-- lo, lo + 1, .. (n of them) -/
def Itr (lo : Int) (n : Nat) : It := ⟨fun i _ => i < n, fun i H x H' => H' = H ∧ x = .int (lo + i), fun i _ => n ≤ i⟩
theorem turn_list {P : Program} {w : World} {K : PySem.W.Frag} {tg : Expr} (a it : Addr) : Turn P w K tg (Itl K a) [it] it (fun i h => h.IsListIter it a i) where
  mem := by simp
  obj := fun i h st b hb => by
    have e : b = it := by simpa using hb
    subst e
    obtain ⟨o, e, c, d⟩ := st
    exact ⟨o, e, fun v z => by rw [d] at z; cases z⟩
  keep := fun i h h' st k => st.at fun o e => k it (by simp) o e
  item := by
    intro X hP hw hK hc i pins s σ H E I hf st hg
    subst hP hw hK
    obtain ⟨xs, x, hq, hx⟩ := hg
    obtain ⟨its, rv, p, hz⟩ := I.list hq
    obtain ⟨u, hu, ru⟩ := rv.get hx
    obtain ⟨f0, f1, f2, f3, f4, f5⟩ := hf it (by simp)
    refine wpAny_pyNext_list_item st p.isList (x := u) (by simpa using hu) fun h' st' sb => ?_
    have I1 : Inv X pins σ H { s with heap := h' } := I.turned (t' := s.toks) (fun b o hb e => (sb.2 b hb).trans e) f0 f1 f3 f4 f5
    obtain ⟨o, e, c, d⟩ := id st'
    exact ⟨u, rfl, go_of (s := { s with heap := h' }) e c d (by decide) ⟨x, H, I1, ru, ⟨rfl, fun ys hy => by rw [I.list_inj hy hq]; exact hx⟩, st', fun b hb => (hf b hb).1⟩⟩
  done := by
    intro X hP hw hK hc i pins s σ H E I hf st hg
    subst hP hw hK
    obtain ⟨xs, hq, hx⟩ := hg
    obtain ⟨its, rv, p, hz⟩ := I.list hq
    obtain ⟨f0, f1, f2, f3, f4, f5⟩ := hf it (by simp)
    have hl := rv.length
    exact wpAny_pyNext_list_end (I.ok.hd hc) st p.isList (by simp; omega) fun h' eb => ⟨rfl, I.turned (t' := s.toks) (fun b o hb e => eb b o hb e) f0 f1 f3 f4 f5⟩
  self := fun _ _ _ _ _ st h => wpAny_pyIter_listiter st h
theorem turn_range {P : Program} {w : World} {K : PySem.W.Frag} {tg : Expr} (it : Addr) (lo : Int) (n : Nat) : Turn P w K tg (Itr lo n) [it] it (fun i h => IsRangeIter h it (lo + (i : Nat) * 1) ((n : Int) - (i : Nat)) 1) where
  mem := by simp
  obj := fun i h st b hb => by
    have e : b = it := by simpa using hb
    subst e
    exact ⟨_, st, fun v z => by
      have z' : Data.fields _ = Data.cell v := z
      cases z'⟩
  keep := fun i h h' st k => k it (by simp) _ st
  item := by
    intro X hP hw hK hc i pins s σ H E I hf st hg
    subst hP hw hK
    obtain ⟨f0, f1, f2, f3, f4, f5⟩ := hf it (by simp)
    have W := Walks.range (prog := X.prog) (w := X.w) (I.ok.hd hc) it lo 1 n
    refine W.item i s _ _ hg st fun v h' tk hv st' kk => ?_
    obtain ⟨t, rfl⟩ := hv
    have I1 : Inv X pins σ H { s with heap := h', toks := tk } := I.turned (fun b o hb e => kk b o (by simpa using hb) e) f0 f1 f3 f4 f5
    refine ⟨_, rfl, go_of (s := { s with heap := h', toks := tk }) (n := "range_iterator") st' rfl rfl (by decide) ⟨.int (lo + i), H, I1, ⟨t, ?_⟩, ⟨rfl, rfl⟩, st', fun b hb => (hf b hb).1⟩⟩
    rw [Int.mul_one]
  done := by
    intro X hP hw hK hc i pins s σ H E I hf st hg
    subst hP hw hK
    obtain ⟨f0, f1, f2, f3, f4, f5⟩ := hf it (by simp)
    exact wpAny_pyNext_range_end (I.ok.hd hc) st (by have : n ≤ i := hg; omega) fun h' eb => ⟨rfl, I.turned (t' := s.toks) (fun b o hb e => eb b o hb e) f0 f1 f3 f4 f5⟩
  self := fun _ _ _ _ _ st h => wpAny_pyIter_rangeiter st h
end L2

namespace L2
open PySem PySem.Spec PyProof.Rows
section
variable {X : Cx} {tg : Expr}
def iList (K : PySem.W.Frag) (tl : TE) : TI := fun σ H R => tl σ H fun x H1 => ∃ a, x = .ref a ∧ (∃ xs, SqL K H1 a xs) ∧ R (Itl K a) H1
theorem pi_list {l : Expr} {tl : TE} (hl : PE X l tl) : PI X tg l (iList X.K tl) := by
  intro pins s σ H R I h
  refine thn (hl pins s σ H _ I h) fun v s1 ⟨x, H1, I1, r1, q1⟩ => ?_
  obtain ⟨a, e, ⟨xs, hq⟩, q⟩ := q1
  subst e
  cases r1
  obtain ⟨its, rv, p, hz⟩ := I1.list hq
  refine wpAny_pyIter_list p.isList ?_
  refine ⟨s1.heap.objs.size, [s1.heap.objs.size], _, _, H1, rfl, I1.kept (t' := s1.toks) fun b o e => Heap.get?_push_of_some _ e, turn_list a _, ⟨_, Heap.get?_push_size _ rfl, rfl, rfl⟩, fun b hb => ?_, q⟩
  have e : b = s1.heap.objs.size := by simpa using hb
  subst e
  exact I1.fpOk (Nat.le_refl _) (I1.hok.fresh (Nat.le_refl _))
/-- a range object just made, walked -/
theorem range_it {pins : List (Addr × Obj)} {σ : St} {H : Hp} {s : Shared} {R : It → Hp → Prop} {E : Value → Shared → Prop} {lo hi : Int} {t u v : Tok} {tk : Nat} (I : Inv X pins σ H s) (h1 : -(2 ^ 62) ≤ lo) (h2 : lo < 2 ^ 62) (h3 : -(2 ^ 62) ≤ hi) (h4 : hi < 2 ^ 62)
    (q : R (Itr lo (hi - lo).toNat) H) : wpAny (model X.prog X.w) X.A (pyIter (.ref s.heap.objs.size)) (PIE X pins σ tg R) E { s with heap := s.heap.push { cls := .type "range", data := .fields #[.int lo t, .int hi u, .int 1 v] }, toks := tk } := by
  refine wpAny_pyIter_range (IsRange.new ..) (small_one h1 h2 h3 h4) ?_
  have I1 : Inv X pins σ H { s with heap := s.heap.push { cls := .type "range", data := .fields #[.int lo t, .int hi u, .int 1 v] }, toks := tk } := I.kept fun b o e => Heap.get?_push_of_some _ e
  refine ⟨(s.heap.push { cls := .type "range", data := .fields #[.int lo t, .int hi u, .int 1 v] }).objs.size, [(s.heap.push { cls := .type "range", data := .fields #[.int lo t, .int hi u, .int 1 v] }).objs.size], _, _, H, rfl,
    I1.kept (t' := tk) fun b o e => Heap.get?_push_of_some _ e, turn_range _ lo (hi - lo).toNat, ?_, fun b hb => ?_, q⟩
  · have e1 : lo + ((0 : Nat) : Int) * 1 = lo := by simp
    have e2 : (((hi - lo).toNat : Nat) : Int) - ((0 : Nat) : Int) = Builtin.Range.rangeSize lo hi 1 := by rw [rangeSize_one]; split <;> omega
    show IsRangeIter _ _ (lo + ((0 : Nat) : Int) * 1) ((((hi - lo).toNat : Nat) : Int) - ((0 : Nat) : Int)) 1
    rw [e1, e2]
    exact Heap.get?_push_size _ rfl
  · have e : b = (s.heap.push { cls := .type "range", data := .fields #[.int lo t, .int hi u, .int 1 v] }).objs.size := by simpa using hb
    subst e
    exact I1.fpOk (Nat.le_refl _) (I1.hok.fresh (Nat.le_refl _))
def iRng1 (ta : TA) : TI := fun σ H R => ta σ H fun vs H1 => ∃ j : Int, vs = [.int j] ∧ -(2 ^ 62) ≤ j ∧ j < 2 ^ 62 ∧ R (Itr 0 j.toNat) H1
theorem pi_range1 {a : Expr} {ta : TA} {p pos : Pos} (hg : Gl X "range") (hm : X.mg "range" = none) (ha : PA X [a] ta) (hs : starEach [a] X.env = [(false, eval a X.env)] := by rfl) : PI X tg (.Call (.Name "range" p) [a] [] pos) (iRng1 ta) := by
  intro pins s σ H R I h
  refine Call_ (ld_blt I hg hm boot_range (PyProof.Rows.callWith_type1 (thn (ha pos pins s σ H _ I h) fun us s1 ⟨vs, H1, I1, r1, q1⟩ => ?_) hs rfl))
  obtain ⟨j, e, q1, q2, q⟩ := q1
  subst e
  cases r1 with
  | cons r rr =>
    cases rr
    obtain ⟨t, rfl⟩ := r
    exact call_range_1 (range_it I1 (by omega) (by omega) q1 q2 (by simpa using q))
/-! ### for -/
/-- W: the invariant by the turn and a measure; N: what the body is to reach -/
def tFor (wi : TI) (g : TG) (tb : TS) : TS := fun D σ H => wi σ H fun J H1 => ∃ W : Nat → Nat → St → Hp → Prop, (∃ m, W 0 m σ H1) ∧ ∀ i m σ H, W i m σ H →
  (J.stop i H ∧ D.nx σ H) ∨ (J.go i H ∧ ∃ N : St → Hp → Prop, (∀ σ' H', N σ' H' → ∃ m', m' < m ∧ W (i + 1) m' σ' H') ∧ ∀ x H', J.yld i H x H' → g x σ H' fun σ2 H2 => tb { D with nx := N, ct := N, bk := D.nx } σ2 H2)
/-- the records at fp as they stand -/
def pinsAt (fp : List Addr) (h : Heap) : List (Addr × Obj) := fp.filterMap fun b => (h.get? b).map fun o => (b, o)
theorem mem_pinsAt {fp : List Addr} {h : Heap} {b : Addr} {o : Obj} (hb : b ∈ fp) (e : h.get? b = some o) : (b, o) ∈ pinsAt fp h := List.mem_filterMap.mpr ⟨b, hb, by rw [e]; rfl⟩
theorem of_pinsAt {fp : List Addr} {h : Heap} {p : Addr × Obj} (hp : p ∈ pinsAt fp h) : p.1 ∈ fp ∧ h.get? p.1 = some p.2 := by
  obtain ⟨b, hb, e⟩ := List.mem_filterMap.mp hp
  cases q : h.get? b with
  | none => rw [q] at e; cases e
  | some o =>
    rw [q] at e
    have e' : (b, o) = p := Option.some.inj e
    subst e'
    exact ⟨hb, q⟩
theorem Inv.pinned {pins : List (Addr × Obj)} {σ : St} {H : Hp} {s : Shared} {fp : List Addr} (I : Inv X pins σ H s) (hf : ∀ b ∈ fp, FpOk X pins H b) (ho : ∀ b ∈ fp, ∃ o, s.heap.get? b = some o ∧ ∀ v, o.data ≠ .cell v) : Inv X (pins ++ pinsAt fp s.heap) σ H s :=
  I.pins_of fun p hp => (List.mem_append.mp hp).elim (fun z => I.pin p (List.mem_append_right _ z)) fun z => by
    obtain ⟨hb, e⟩ := of_pinsAt z
    obtain ⟨f0, f1, f2, _⟩ := hf p.1 hb
    obtain ⟨o, e', d⟩ := ho p.1 hb
    rw [e] at e'; cases e'
    exact ⟨e, f0, f1, f2, d⟩
theorem Inv.unpinned {pins pl : List (Addr × Obj)} {σ : St} {H : Hp} {s : Shared} (I : Inv X (pins ++ pl) σ H s) : Inv X pins σ H s := I.pins_of fun p hp => I.pin p (List.mem_append_right _ (List.mem_append_left _ hp))
theorem ps_for {iter : Expr} {body : List Stmt} {wi : TI} {g : TG} {tb : TS} {pos : Pos} (hp : PassesOwn (model X.prog X.w) X.A X.env X.xe) (hc : X.calm = true) (hi : PI X tg iter wi) (hg : PG X tg g) (hb : PSs X body tb)
    (hs : ∀ x, foldedSetIterable iter X.env x = pure x := by intro _; rfl) : PS X (.For tg iter body [] pos) (tFor wi g tb) := by
  intro pins s σ H D I h
  refine wpAny_For (thn (hi pins s σ H _ I h) fun v s1 h1 => thn h1 fun itv s2 h2 => ?_) hs
  obtain ⟨it, fp, tn, J, H2, e, I2, T, st2, f2, W, ⟨m0, w0⟩, turn⟩ := h2
  subst e
  -- what stays true of the iterator's objects through the loop
  have stat : ∀ {H' : Hp}, (∀ b ∈ fp, H' b = none) → ∀ b ∈ fp, FpOk X pins H' b := fun hn b hb => ⟨hn b hb, (f2 b hb).2⟩
  refine codeAny_forLoop_any (fun n s' => ∃ i σ' H', Inv X pins σ' H' s' ∧ tn i s'.heap ∧ (∀ b ∈ fp, H' b = none) ∧ W i n σ' H') ?_ m0 ⟨0, σ, H2, I2, st2, fun b hb => (f2 b hb).1, w0⟩
  rintro n s3 ⟨i, σ3, H3, I3, st3, fr3, w3⟩
  rcases turn i n σ3 H3 w3 with ⟨stop, qn⟩ | ⟨go, N, hN, step⟩
  · refine wpAny_passesOwn hp (thn (T.done X rfl rfl rfl hc i pins s3 σ3 H3 X.xe I3 (stat fr3) st3 stop) fun r s4 ⟨hr, I4⟩ => ?_)
    subst hr
    exact wpAny_execs_nil ⟨σ3, H3, I4, qn⟩
  · refine wpAny_passesOwn hp (thn (T.item X rfl rfl rfl hc i pins s3 σ3 H3 X.xe I3 (stat fr3) st3 go) fun r s4 ⟨u, hr, h4⟩ => ?_)
    subst hr
    refine wpAny_passesOwn hp (thn h4 fun _ s5 ⟨x, H5, I5, r5, y5, st5, fr5⟩ => ?_)
    have I5' := I5.pinned (stat fr5) (T.obj _ _ st5)
    refine wpAny_passesOwn hp (thn (hg _ s5 σ3 H5 x u _ I5' r5 (step x H5 y5)) fun _ s6 ⟨σ6, H6, I6, q6⟩ => ?_)
    refine wpAny_passesOwn hp (thn (hb _ s6 σ6 H6 _ I6 q6) fun f s7 q7 => ?_)
    have again : ∀ {σ7 : St} {H7 : Hp}, Inv X (pins ++ pinsAt fp s5.heap) σ7 H7 s7 → N σ7 H7 → ∃ m, m < n ∧ ∃ i σ' H', Inv X pins σ' H' s7 ∧ tn i s7.heap ∧ (∀ b ∈ fp, H' b = none) ∧ W i m σ' H' := fun {σ7 H7} I7 n7 => by
      obtain ⟨m', hm, w7⟩ := hN σ7 H7 n7
      refine ⟨m', hm, i + 1, σ7, H7, I7.unpinned, T.keep _ _ _ st5 fun b hb o e => (I7.pin (b, o) (List.mem_append_right _ (List.mem_append_right _ (mem_pinsAt hb e)))).1, fun b hb => ?_, w7⟩
      obtain ⟨o, e, d⟩ := T.obj _ _ st5 b hb
      exact (I7.pin (b, o) (List.mem_append_right _ (List.mem_append_right _ (mem_pinsAt hb e)))).2.1
    cases f with
    | next => obtain ⟨σ7, H7, I7, n7⟩ := q7; exact again I7 n7
    | cont => obtain ⟨σ7, H7, I7, n7⟩ := q7; exact again I7 n7
    | brk => obtain ⟨σ7, H7, I7, q7⟩ := q7; exact ⟨σ7, H7, I7.unpinned, q7⟩
    | ret v => obtain ⟨x7, σ7, H7, I7, r7, q7⟩ := q7; exact ⟨x7, σ7, H7, I7.unpinned, r7, q7⟩
end

/-! ### the forms one uses -/
/-- over a list that the body leaves as it is -/
theorem for_list {K : PySem.W.Frag} {a : Addr} {xs : List V} {g : TG} {tb : TS} {D : Ends} {σ : St} {H : Hp} (Pv : Nat → St → Hp → Prop) (h0 : Pv 0 σ H) (hl : ∀ i σ H, i ≤ xs.length → Pv i σ H → SqL K H a xs)
    (hs : ∀ i x σ H, xs[i]? = some x → Pv i σ H → g x σ H fun σ2 H2 => tb { D with nx := Pv (i + 1), ct := Pv (i + 1), bk := D.nx } σ2 H2) (hd : ∀ σ H, Pv xs.length σ H → D.nx σ H) :
    ∃ W : Nat → Nat → St → Hp → Prop, (∃ m, W 0 m σ H) ∧ ∀ i m σ H, W i m σ H →
      ((Itl K a).stop i H ∧ D.nx σ H) ∨ ((Itl K a).go i H ∧ ∃ N : St → Hp → Prop, (∀ σ' H', N σ' H' → ∃ m', m' < m ∧ W (i + 1) m' σ' H') ∧ ∀ x H', (Itl K a).yld i H x H' → g x σ H' fun σ2 H2 => tb { D with nx := N, ct := N, bk := D.nx } σ2 H2) := by
  refine ⟨fun i m σ H => m = xs.length - i ∧ i ≤ xs.length ∧ Pv i σ H, ⟨xs.length, by simp, Nat.zero_le _, h0⟩, ?_⟩
  rintro i m σ H ⟨rfl, hi, p⟩
  have q := hl i σ H hi p
  by_cases hlt : i < xs.length
  · refine .inr ⟨⟨xs, xs[i], q, by simp [hlt]⟩, Pv (i + 1), fun σ' H' p' => ⟨xs.length - (i + 1), by omega, rfl, hlt, p'⟩, fun x H' y => ?_⟩
    obtain ⟨e, y⟩ := y
    subst e
    exact hs i x σ _ (y xs q) p
  · have e : i = xs.length := by omega
    subst e
    exact .inl ⟨⟨xs, q, Nat.le_refl _⟩, hd σ H p⟩
theorem for_range {lo : Int} {n : Nat} {g : TG} {tb : TS} {D : Ends} {σ : St} {H : Hp} (Pv : Nat → St → Hp → Prop) (h0 : Pv 0 σ H)
    (hs : ∀ i σ H, i < n → Pv i σ H → g (.int (lo + i)) σ H fun σ2 H2 => tb { D with nx := Pv (i + 1), ct := Pv (i + 1), bk := D.nx } σ2 H2) (hd : ∀ σ H, Pv n σ H → D.nx σ H) :
    ∃ W : Nat → Nat → St → Hp → Prop, (∃ m, W 0 m σ H) ∧ ∀ i m σ H, W i m σ H →
      ((Itr lo n).stop i H ∧ D.nx σ H) ∨ ((Itr lo n).go i H ∧ ∃ N : St → Hp → Prop, (∀ σ' H', N σ' H' → ∃ m', m' < m ∧ W (i + 1) m' σ' H') ∧ ∀ x H', (Itr lo n).yld i H x H' → g x σ H' fun σ2 H2 => tb { D with nx := N, ct := N, bk := D.nx } σ2 H2) := by
  refine ⟨fun i m σ H => m = n - i ∧ i ≤ n ∧ Pv i σ H, ⟨n, by simp, Nat.zero_le _, h0⟩, ?_⟩
  rintro i m σ H ⟨rfl, hi, p⟩
  by_cases hlt : i < n
  · refine .inr ⟨hlt, Pv (i + 1), fun σ' H' p' => ⟨n - (i + 1), by omega, rfl, hlt, p'⟩, fun x H' y => ?_⟩
    obtain ⟨e, y⟩ := y
    subst e y
    exact hs i σ _ hlt p
  · have e : i = n := by omega
    subst e
    exact .inl ⟨Nat.le_refl _, hd σ H p⟩
/-- while, by a word and a measure of the state -/
theorem while_by {c : TT} {tb : TS} {D : Ends} {σ : St} {H : Hp} (Pv : St → Hp → Prop) (μ : St → Hp → Nat) (h0 : Pv σ H)
    (hs : ∀ σ H, Pv σ H → c σ H fun b H1 => if b = true then tb { D with nx := fun σ' H' => Pv σ' H' ∧ μ σ' H' < μ σ H, ct := fun σ' H' => Pv σ' H' ∧ μ σ' H' < μ σ H, bk := D.nx } σ H1 else D.nx σ H1)
    (mono : ∀ σ H Q Q', (∀ b H1, Q b H1 → Q' b H1) → c σ H Q → c σ H Q') : tWhile c tb D σ H := by
  refine ⟨fun m σ H => m = μ σ H ∧ Pv σ H, ⟨_, rfl, h0⟩, ?_⟩
  rintro m σ H ⟨rfl, p⟩
  refine mono σ H _ _ (fun b H1 q => ?_) (hs σ H p)
  cases b with
  | true => exact ⟨_, fun σ' H' ⟨p', l⟩ => ⟨_, l, rfl, p'⟩, q⟩
  | false => exact q
end L2

namespace L2
open PySem PySem.Spec PyProof.Rows

abbrev R2 := V → V → Hp → VK → Prop
/-- a two-place operation on values: f is binaryOp op, inplaceOp op or compareOp op -/
def OpR (X : Cx) (f : Value → Value → Sem Value) (r : R2) : Prop :=
  ∀ (pins : List (Addr × Obj)) (s : Shared) (σ : St) (H : Hp) (x y : V) (v u : Value) (Q : VK), Inv X pins σ H s → RelV x v → RelV y u → r x y H Q →
    wpAny (model X.prog X.w) X.A (f v u) (EP X pins σ Q) X.xe s
/-- a call of a value that is known (a builtin, a type) with values -/
def CallR (X : Cx) (f : Value) (r : List V → Hp → VK → Prop) : Prop :=
  ∀ (pins : List (Addr × Obj)) (s : Shared) (σ : St) (H : Hp) (xs : List V) (us : List Value) (Q : VK), Inv X pins σ H s → Vals xs us → r xs H Q →
    wpAny (model X.prog X.w) X.A (call f us) (EP X pins σ Q) X.xe s
def tOp (r : R2) (ta tb : TE) : TE := fun σ H Q => ta σ H fun x H1 => tb σ H1 fun y H2 => r x y H2 Q
/-- ints in, under C, and a value out -/
def rI (C : Int → Int → Prop) (g : Int → Int → V) : R2 := fun x y H Q => ∃ i j, x = .int i ∧ y = .int j ∧ C i j ∧ Q (g i j) H
def rI0 (g : Int → Int → V) : R2 := fun x y H Q => ∃ i j, x = .int i ∧ y = .int j ∧ Q (g i j) H
section
variable {X : Cx} {a b c : Expr} {ta tb tc : TE} {pos : Pos}

theorem binT (ha : PE X a ta) (hb : PE X b tb) {pins : List (Addr × Obj)} {s : Shared} {σ : St} {H : Hp} {R : V → V → Hp → Prop} (I : Inv X pins σ H s)
    (h : ta σ H fun x H1 => tb σ H1 fun y H2 => R x y H2) {Q : Value → Shared → Prop} {f : Value → Value → Sem Value}
    (hf : ∀ v u s2 x y H2, Inv X pins σ H2 s2 → RelV x v → RelV y u → R x y H2 → wpAny (model X.prog X.w) X.A (f v u) Q X.xe s2) :
    wpAny (model X.prog X.w) X.A (eval a X.env) (fun v s₁ => wpAny (model X.prog X.w) X.A (eval b X.env) (fun u s₂ => wpAny (model X.prog X.w) X.A (f v u) Q X.xe s₂) X.xe s₁) X.xe s := by
  refine thn (ha pins s σ H _ I h) fun v s1 ⟨x, H1, I1, r1, q1⟩ => ?_
  refine thn (hb pins s1 σ H1 _ I1 q1) fun u s2 ⟨y, H2, I2, r2, q2⟩ => ?_
  exact hf v u s2 x y H2 I2 r1 r2 q2

theorem pe_op {op : Operator} {r : R2} (ho : OpR X (binaryOp op) r) (ha : PE X a ta) (hb : PE X b tb) : PE X (.BinOp a op b pos) (tOp r ta tb) := by
  intro pins s σ H Q I h
  exact wpAny_BinOp (binT ha hb I h fun v u s2 x y H2 I2 rx ry q => ho pins s2 σ H2 x y v u Q I2 rx ry q)
/-! ### ints -/
theorem opI {f : Value → Value → Sem Value} {C : Int → Int → Prop} {g : Int → Int → Int}
    (rule : ∀ (i j : Int) (t u : Tok) (s : Shared) (Q : Value → Shared → Prop) (E : Value → Shared → Prop), C i j → Q (.int (g i j) s.toks) { s with toks := s.toks + 1 } → wpAny (model X.prog X.w) X.A (f (.int i t) (.int j u)) Q E s) :
    OpR X f (rI C fun i j => .int (g i j)) := by
  intro pins s σ H x y v u Q I rx ry h
  obtain ⟨i, j, rfl, rfl, hc, q⟩ := h
  obtain ⟨t, rfl⟩ := rx
  obtain ⟨t', rfl⟩ := ry
  exact rule i j t t' s _ _ hc ⟨.int (g i j), H, I.tok _, ⟨_, rfl⟩, q⟩
theorem opI0 {f : Value → Value → Sem Value} {g : Int → Int → Int}
    (rule : ∀ (i j : Int) (t u : Tok) (s : Shared) (Q : Value → Shared → Prop) (E : Value → Shared → Prop), Q (.int (g i j) s.toks) { s with toks := s.toks + 1 } → wpAny (model X.prog X.w) X.A (f (.int i t) (.int j u)) Q E s) :
    OpR X f (rI0 fun i j => .int (g i j)) := by
  intro pins s σ H x y v u Q I rx ry h
  obtain ⟨i, j, rfl, rfl, q⟩ := h
  obtain ⟨t, rfl⟩ := rx
  obtain ⟨t', rfl⟩ := ry
  exact rule i j t t' s _ _ ⟨.int (g i j), H, I.tok _, ⟨_, rfl⟩, q⟩
theorem opB0 {f : Value → Value → Sem Value} {g : Int → Int → Bool}
    (rule : ∀ (i j : Int) (t u : Tok) (s : Shared) (Q : Value → Shared → Prop) (E : Value → Shared → Prop), Q (.bool (g i j)) s → wpAny (model X.prog X.w) X.A (f (.int i t) (.int j u)) Q E s) :
    OpR X f (rI0 fun i j => .bl (g i j)) := by
  intro pins s σ H x y v u Q I rx ry h
  obtain ⟨i, j, rfl, rfl, q⟩ := h
  obtain ⟨t, rfl⟩ := rx
  obtain ⟨t', rfl⟩ := ry
  exact rule i j t t' s _ _ ⟨.bl (g i j), H, I, rfl, q⟩

def CDiv (i j : Int) : Prop := 0 < j ∧ j < 1073741824
def CMul (i j : Int) : Prop := (-(2 ^ 64) < i ∧ i < 2 ^ 64) ∨ (-(2 ^ 64) < j ∧ j < 2 ^ 64)
theorem CMul.ok {i j : Int} (h : CMul i j) : IntMulOk i j := by
  rcases h with ⟨h1, h2⟩ | ⟨h1, h2⟩
  · exact .of_left (intBits_le_64 h1 h2)
  · exact .of_right (intBits_le_64 h1 h2)
theorem op_add : OpR X (binaryOp .Add) (rI0 fun i j => .int (i + j)) := opI0 fun _ _ _ _ _ _ _ q => add_int q
theorem op_sub : OpR X (binaryOp .Sub) (rI0 fun i j => .int (i - j)) := opI0 fun _ _ _ _ _ _ _ q => sub_int q
theorem op_mul : OpR X (binaryOp .Mult) (rI CMul fun i j => .int (i * j)) := opI fun _ _ _ _ _ _ _ hc q => mul_int q hc.ok
/-- // by a positive divisor -/
theorem op_fdiv : OpR X (binaryOp .FloorDiv) (rI CDiv fun i j => .int (i / j)) := opI fun i j _ _ _ _ _ hc q => by
  have h1 : (0 : Int) < j := hc.1
  have h2 : j < 1073741824 := hc.2
  exact floordiv_int (by omega) (by rw [Int.fdiv_eq_ediv_of_nonneg i (by omega)]; exact q) (.inl (PyProof.noPylong_small (by omega)))
/-- % by a positive divisor of any size -/
theorem op_mod : OpR X (binaryOp .Mod) (rI (fun _ j => 0 < j) fun i j => .int (i % j)) := opI fun i j _ _ _ _ _ hc q => by
  have h1 : (0 : Int) < j := hc
  exact mod_int' (by omega) (by rw [Int.fmod_eq_emod_of_nonneg i (by omega)]; exact q)
/-! ### bools among ints: n += (a < b) -/
end

/-! ### comparisons -/
/-- the scalars that == tells apart as data does -/
def scal : V → V → Bool
  | .non, .non => true | .non, .int _ => true | .int _, .non => true | .non, .bl _ => true | .bl _, .non => true | .non, .str _ => true | .str _, .non => true
  | .int _, .int _ => true | .bl _, .bl _ => true | .str _, .str _ => true | .byt _, .byt _ => true
  | .int _, .str _ => true | .str _, .int _ => true | .bl _, .str _ => true | .str _, .bl _ => true
  | _, _ => false
def rEq : R2 := fun x y H Q => scal x y = true ∧ Q (.bl (decide (x = y))) H
def rNe : R2 := fun x y H Q => scal x y = true ∧ Q (.bl (!decide (x = y))) H

theorem dec_int {i j : Int} : decide (V.int i = V.int j) = (i == j) := by
  rw [Bool.eq_iff_iff]
  simp
theorem dec_bl {i j : Bool} : decide (V.bl i = V.bl j) = (i == j) := by
  rw [Bool.eq_iff_iff]
  simp
theorem dec_str {i j : Str} : decide (V.str i = V.str j) = (i == j) := by
  rw [Bool.eq_iff_iff]
  simp
theorem dec_byt {i j : Array UInt8} : decide (V.byt i = V.byt j) = (i.toList == j.toList) := by
  rw [Bool.eq_iff_iff]
  cases i
  cases j
  simp

section
variable {X : Cx} {a b c : Expr} {ta tb tc : TE} {pos : Pos}
theorem fin_bl {pins : List (Addr × Obj)} {σ : St} {H : Hp} {s : Shared} {Q : VK} {k k' : Bool} (I : Inv X pins σ H s) (q : Q (.bl k) H) (e : k = k') : EP X pins σ Q (.bool k') s := by
  subst e
  exact ⟨.bl k, H, I, rfl, q⟩
theorem op_eq : OpR X (compareOp .Eq) rEq := by
  intro pins s σ H x y v u Q I rx ry h
  obtain ⟨hs, q⟩ := h
  cases x with
  | non =>
    cases rx
    cases y with
    | non => cases ry; exact PySem.EqNone.eq_none_none (fin_bl I q (by simp))
    | bl j => cases ry; exact PySem.EqNone.eq_none_bool (fin_bl I q (by simp))
    | int j => obtain ⟨t', rfl⟩ := ry; exact PySem.EqNone.eq_none_int (fin_bl I q (by simp))
    | str j => obtain ⟨t', rfl⟩ := ry; exact PySem.EqNone.eq_none_str (fin_bl I q (by simp))
    | _ => exact absurd (show false = true from hs) Bool.false_ne_true
  | bl i =>
    cases rx
    cases y with
    | non => cases ry; exact PySem.EqNone.eq_bool_none (fin_bl I q (by simp))
    | bl j => cases ry; exact eq_bool (fin_bl I q dec_bl)
    | str j => obtain ⟨t', rfl⟩ := ry; exact PySem.EqMixed.eq_bool_str (fin_bl I q (by simp))
    | _ => exact absurd (show false = true from hs) Bool.false_ne_true
  | int i =>
    obtain ⟨t, rfl⟩ := rx
    cases y with
    | non => cases ry; exact PySem.EqNone.eq_int_none (fin_bl I q (by simp))
    | int j => obtain ⟨t', rfl⟩ := ry; exact eq_int (fin_bl I q dec_int)
    | str j => obtain ⟨t', rfl⟩ := ry; exact PySem.EqMixed.eq_int_str (fin_bl I q (by simp))
    | _ => exact absurd (show false = true from hs) Bool.false_ne_true
  | str i =>
    obtain ⟨t, rfl⟩ := rx
    cases y with
    | non => cases ry; exact PySem.EqNone.eq_str_none (fin_bl I q (by simp))
    | bl j => cases ry; exact PySem.EqMixed.eq_str_bool (fin_bl I q (by simp))
    | int j => obtain ⟨t', rfl⟩ := ry; exact PySem.EqMixed.eq_str_int (fin_bl I q (by simp))
    | str j => obtain ⟨t', rfl⟩ := ry; exact eq_str (fin_bl I q dec_str)
    | _ => exact absurd (show false = true from hs) Bool.false_ne_true
  | byt i =>
    obtain ⟨t, rfl⟩ := rx
    cases y with
    | byt j => obtain ⟨t', rfl⟩ := ry; exact PySem.W.eq_bytes (fin_bl I q dec_byt)
    | _ => exact absurd (show false = true from hs) Bool.false_ne_true
  | _ => cases y <;> exact absurd (show false = true from hs) Bool.false_ne_true
theorem op_ne : OpR X (compareOp .NotEq) rNe := by
  intro pins s σ H x y v u Q I rx ry h
  obtain ⟨hs, q⟩ := h
  cases x with
  | non =>
    cases rx
    cases y with
    | non => cases ry; exact PySem.EqNone.ne_none_none (fin_bl I q (by simp))
    | bl j => cases ry; exact PySem.EqNone.ne_none_bool (fin_bl I q (by simp))
    | int j => obtain ⟨t', rfl⟩ := ry; exact PySem.EqNone.ne_none_int (fin_bl I q (by simp))
    | str j => obtain ⟨t', rfl⟩ := ry; exact PySem.EqNone.ne_none_str (fin_bl I q (by simp))
    | _ => exact absurd (show false = true from hs) Bool.false_ne_true
  | bl i =>
    cases rx
    cases y with
    | non => cases ry; exact PySem.EqNone.ne_bool_none (fin_bl I q (by simp))
    | bl j => cases ry; exact ne_bool (fin_bl I q (congrArg not dec_bl))
    | str j => obtain ⟨t', rfl⟩ := ry; exact PySem.EqMixed.ne_bool_str (fin_bl I q (by simp))
    | _ => exact absurd (show false = true from hs) Bool.false_ne_true
  | int i =>
    obtain ⟨t, rfl⟩ := rx
    cases y with
    | non => cases ry; exact PySem.EqNone.ne_int_none (fin_bl I q (by simp))
    | int j => obtain ⟨t', rfl⟩ := ry; exact ne_int (fin_bl I q (congrArg not dec_int))
    | str j => obtain ⟨t', rfl⟩ := ry; exact PySem.EqMixed.ne_int_str (fin_bl I q (by simp))
    | _ => exact absurd (show false = true from hs) Bool.false_ne_true
  | str i =>
    obtain ⟨t, rfl⟩ := rx
    cases y with
    | non => cases ry; exact PySem.EqNone.ne_str_none (fin_bl I q (by simp))
    | bl j => cases ry; exact PySem.EqMixed.ne_str_bool (fin_bl I q (by simp))
    | int j => obtain ⟨t', rfl⟩ := ry; exact PySem.EqMixed.ne_str_int (fin_bl I q (by simp))
    | str j => obtain ⟨t', rfl⟩ := ry; exact ne_str (fin_bl I q (congrArg not dec_str))
    | _ => exact absurd (show false = true from hs) Bool.false_ne_true
  | byt i =>
    obtain ⟨t, rfl⟩ := rx
    cases y with
    | byt j => obtain ⟨t', rfl⟩ := ry; exact PySem.W.ne_bytes (fin_bl I q (congrArg not dec_byt))
    | _ => exact absurd (show false = true from hs) Bool.false_ne_true
  | _ => cases y <;> exact absurd (show false = true from hs) Bool.false_ne_true

theorem op_lt : OpR X (compareOp .Lt) (rI0 fun i j => .bl (decide (i < j))) := opB0 fun _ _ _ _ _ _ _ q => lt_int q
theorem op_le : OpR X (compareOp .LtE) (rI0 fun i j => .bl (decide (i ≤ j))) := opB0 fun _ _ _ _ _ _ _ q => le_int q
theorem op_ge : OpR X (compareOp .GtE) (rI0 fun i j => .bl (decide (j ≤ i))) := opB0 fun _ _ _ _ _ _ _ q => ge_int q
theorem nomark (b : Expr) {op : CmpOp} (h : op ≠ .In := by decide) (h2 : op ≠ .NotIn := by decide) : behindInMarks op b = false := by
  have e1 : (op == CmpOp.In) = false := by cases op <;> first | rfl | exact absurd rfl h
  have e2 : (op == CmpOp.NotIn) = false := by cases op <;> first | rfl | exact absurd rfl h2
  cases b <;> simp [behindInMarks, e1, e2]
/-- a comparison as a value; hm: nomark b, or (for in, not in) by with_unfolding_all rfl -/
theorem pe_cmpR {op : CmpOp} {r : R2} (ho : OpR X (compareOp op) r) (ha : PE X a ta) (hb : PE X b tb) (hm : behindInMarks op b = false) : PE X (.Compare a [op] [b] pos) (tOp r ta tb) := by
  intro pins s σ H Q I h
  exact wpAny_Compare1 (binT ha hb I h fun v u s2 x y H2 I2 rx ry q => ho pins s2 σ H2 x y v u Q I2 rx ry q) hm
/-- a reading of a value as a test -/
def tTest (t : TE) : TT := fun σ H Q => t σ H fun x H' => ∃ k, x = .bl k ∧ Q k H'
theorem pt_cmpR {op : CmpOp} {r : R2} (ho : OpR X (compareOp op) r) (ha : PE X a ta) (hb : PE X b tb) (hm : behindInMarks op b = false) : PT X (.Compare a [op] [b] pos) (tTest (tOp r ta tb)) := by
  intro pins s σ H Q I h
  refine wpAny_isTrue_Compare1 (thn (ha pins s σ H _ I h) fun v s1 ⟨x, H1, I1, r1, q1⟩ => thn (hb pins s1 σ H1 _ I1 q1) fun u s2 ⟨y, H2, I2, r2, q2⟩ =>
    thn (ho pins s2 σ H2 x y v u _ I2 r1 r2 q2) fun c s3 ⟨z, H3, I3, r3, k, e, q3⟩ => ?_) hm
  subst e
  cases r3
  exact wpAny_truthy_bool ⟨H3, I3, q3⟩
/-- a op1 b op2 c -/
def tChain (r r' : R2) (ta tb tc : TE) : TE := fun σ H Q => ta σ H fun x H1 => tb σ H1 fun y H2 => r x y H2 fun z H3 => ∃ k, z = .bl k ∧
  (if k = true then tc σ H3 fun w' H4 => r' y w' H4 Q else Q (.bl false) H3)
theorem pe_chain {op op' : CmpOp} {r r' : R2} (ho : OpR X (compareOp op) r) (ho' : OpR X (compareOp op') r') (ha : PE X a ta) (hb : PE X b tb) (hc : PE X c tc)
    (hm : lastMarks [op, op'] [b, c] = false := by with_unfolding_all rfl) : PE X (.Compare a [op, op'] [b, c] pos) (tChain r r' ta tb tc) := by
  intro pins s σ H Q I h
  refine Compare_chain (thn (ha pins s σ H _ I h) fun v s1 ⟨x, H1, I1, r1, q1⟩ => chain_link (thn (hb pins s1 σ H1 _ I1 q1) fun u s2 ⟨y, H2, I2, r2, q2⟩ =>
    thn (ho pins s2 σ H2 x y v u _ I2 r1 r2 q2) fun d s3 ⟨z, H3, I3, r3, k, e, q3⟩ => ?_)) hm
  subst e
  cases r3
  refine wpAny_truthy_bool ?_
  cases k with
  | false => exact ite_ff ⟨.bl false, H3, I3, rfl, q3⟩
  | true => exact ite_tt (chain_last (thn (hc pins s3 σ H3 _ I3 q3) fun w' s4 ⟨z', H4, I4, r4, q4⟩ => ho' pins s4 σ H4 y z' u w' Q I4 r2 r4 q4))
theorem pt_chain {op op' : CmpOp} {r r' : R2} (ho : OpR X (compareOp op) r) (ho' : OpR X (compareOp op') r') (ha : PE X a ta) (hb : PE X b tb) (hc : PE X c tc)
    (hm : lastMarks [op, op'] [b, c] = false := by with_unfolding_all rfl) : PT X (.Compare a [op, op'] [b, c] pos) (tTest (tChain r r' ta tb tc)) := by
  intro pins s σ H Q I h
  refine isTrue_chain (thn (ha pins s σ H _ I h) fun v s1 ⟨x, H1, I1, r1, q1⟩ => test_link (thn (hb pins s1 σ H1 _ I1 q1) fun u s2 ⟨y, H2, I2, r2, q2⟩ =>
    thn (ho pins s2 σ H2 x y v u _ I2 r1 r2 q2) fun d s3 ⟨z, H3, I3, r3, k, e, q3⟩ => ?_)) hm
  subst e
  cases r3
  refine wpAny_truthy_bool ?_
  cases k with
  | false =>
    obtain ⟨k', e', q'⟩ := q3
    cases e'
    exact ite_ff ⟨H3, I3, q'⟩
  | true =>
    refine ite_tt (test_last (thn (hc pins s3 σ H3 _ I3 q3) fun w' s4 ⟨z', H4, I4, r4, q4⟩ => thn (ho' pins s4 σ H4 y z' u w' _ I4 r2 r4 q4) fun d' s5 ⟨z2, H5, I5, r5, k2, e2, q5⟩ => ?_))
    subst e2
    cases r5
    exact wpAny_truthy_bool ⟨H5, I5, q5⟩

/-! ### truth -/
theorem line63 : (sizeLine : Nat) < 2 ^ 63 := by rw [sizeLine_eq]; decide
/-! ### strs and bytes -/
/-! ### scalar builtins, by CallR -/
theorem vals1 {x : V} {us : List Value} (r : Vals [x] us) : ∃ u, us = [u] ∧ RelV x u := by
  cases r with
  | cons r1 r2 => cases r2; exact ⟨_, rfl, r1⟩
end
end L2

namespace L2
open PySem PySem.Spec PyProof.Rows

/-! ### an instance, its attributes a map -/
structure ObjM (h : Heap) (x dx C : Addr) (mA : Str → Option Value) : Prop where
  obj : h.get? x = some (PySem.W.instObj C dx)
  ns : h.Ns1 dx mA
  ne : dx ≠ x

theorem lookIn_ns {h : Heap} {dx : Addr} {mA : Str → Option Value} (n : h.Ns1 dx mA) : ∃ od, h.get? dx = some od ∧ ∀ name, PySem.W.lookIn name od = some (mA name) := by
  obtain ⟨o, es, ep, ho, hd, hk, _, hm⟩ := n
  refine ⟨o, ho, fun name => ?_⟩
  have e := hm name
  unfold nsFind findBy at e
  rw [← Array.find?_toList] at e
  unfold PySem.W.lookIn
  rw [hd]
  dsimp only
  split
  · rename_i y q
    rw [q] at e
    exact congrArg some e
  · rename_i q
    rw [q] at e
    have a : es.toList.any (·.refKey) = false := by
      rw [List.any_eq_false]
      intro y hy
      obtain ⟨z, t, hkey⟩ := hk y (Array.mem_toList_iff.mp hy)
      simp [DictEntry.refKey, hkey]
    have a' : ¬ es.toList.any (·.refKey) = true := by rw [a]; exact Bool.false_ne_true
    rw [if_neg a']
    exact congrArg some e

theorem ObjM.look {h : Heap} {x dx C : Addr} {mA : Str → Option Value} (I : ObjM h x dx C mA) : ∃ od, PySem.W.InstAt h x (PySem.W.instObj C dx) C (some od) ∧ ∀ name, PySem.W.lookIn name od = some (mA name) :=
  let ⟨od, ho, hl⟩ := lookIn_ns I.ns
  ⟨od, ⟨I.obj, rfl, rfl, ho⟩, hl⟩

section
variable {prog : Program} {w : World} {A : Around} {E : Value → Shared → Prop} {s : Shared} {K : PySem.W.Frag} {x dx C f : Addr} {mA : Str → Option Value} {name : Str} {v : Value}

theorem get_map {expr : Bool} {Q : Value → Shared → Prop} (X : K.In s.heap) (I : ObjM s.heap x dx C mA) (hg : PySem.W.plainGet K C name = true) (hh : PySem.W.hasDictIn K C = true)
    (ha : PySem.W.findIn K (.ref C) name = some none) (hv : mA name = some v) (hv' : PySem.W.handedIn v = true) (h : Q v { s with toks := s.toks + 1 }) :
    wpAny (model prog w) A (getAttr (.ref x) name expr) Q E s := by
  obtain ⟨od, J, hl⟩ := I.look
  exact PySem.W.get_value X J (PySem.W.plainGet_of hg).1 (PySem.W.findObj_own hh ha rfl (by rw [hl, hv])) hv' h

theorem get_meth {pl : Sem Bool} {Q : Value × List Value → Shared → Prop} (X : K.In s.heap) (I : ObjM s.heap x dx C mA) (hg : PySem.W.plainGet K C name = true)
    (hf : PySem.W.findIn K (.ref C) name = some (some (.ref f))) (ht : PySem.W.isFn K (.ref f) = true) (hv : mA name = none) (h : Q (.ref f, [.ref x]) s) :
    wpAny (model prog w) A (getMethod (.ref x) name pl) Q E s := by
  obtain ⟨od, J, hl⟩ := I.look
  exact PySem.W.method_fn X J (PySem.W.plainGet_of hg).1 (PySem.W.plainGet_of hg).2 hf (beq_iff_eq.mp ht) (by show (PySem.W.lookIn name od).map (·.isSome) = some false; rw [hl, hv]; rfl) h

theorem set_map {ns : List Str} {Q : Unit → Shared → Prop} (X : K.In s.heap) (I : ObjM s.heap x dx C mA)
    (hs : PySem.W.findIn K (.ref C) "__setattr__" = some (some (.builtin "object.__setattr__"))) (hp : PySem.W.plainOver K C = true) (ht : PySem.W.takerIn K C name = some none) (hh : PySem.W.hasDictIn K C = true)
    (hw : PySem.Within mA ns) (hsz : ns.length ≤ sizeLine)
    (h : ∀ h', ObjM h' x dx C (fun y => if y = name then some v else mA y) → Heap.SameBut dx s.heap h' → Q () { s with heap := h', toks := s.toks + 2 }) :
    wpAny (model prog w) A (setAttr (.ref x) name v) Q E s := by
  obtain ⟨od, J, hl⟩ := I.look
  refine PySem.W.set_plain X J hs (PySem.W.osa_open (s := { s with toks := s.toks + 1 }) (r := none) X J hp ht fun b => ?_)
  obtain ⟨cd, hc, hd'⟩ := PySem.W.any_some hh
  have hx : s.heap.get? x = some ⟨.ref C, some dx, .plain, #[]⟩ := I.obj
  refine wpAny_bind (wpAny_pure (wpAny_bind (wpAny_bind (wpAny_loadPart hx (wpAny_bind (PySem.W.Looks.here (s := { s with toks := s.toks + 1 }) (PySem.W.looks_clsIn X hc) ?_))))))
  rw [hd']
  refine wpAny_pure (a := some dx) (wpAny_bind (wpAny_pure (wpAny_bind ?_)))
  refine wpAny_nsSet1 (s := { s with toks := s.toks + 1 }) I.ns fun h' hn2 hs2 => ?_
  obtain ⟨oD, esD, epD, hoD, hdD, hcD⟩ := hn2.count (PySem.Within.cons name v hw)
  refine wpAny_bind (wpAny_lookBehind hoD (by rw [hdD]; exact pastItsLine_dict (Nat.le_trans hcD (by rw [List.length_cons]; omega))) ?_)
  exact wpAny_pure (h _ ⟨(hs2.2 _ (Ne.symm I.ne)).trans I.obj, hn2, I.ne⟩ hs2)

/-- C(..): the dict at the heap's end, the instance behind it; then its __init__ -/
theorem make_map {R : Result → Shared → Prop} {vs : List Value} {kw : List (Str × Value)} (X : K.In s.heap) (hm : PySem.W.makesIn K C = true)
    (hi : PySem.W.findIn K (.ref C) "__init__" = some (some (.ref f))) (hf : PySem.W.typeIn K (.ref f) = some (.type "function"))
    (h : codeAny (model prog w) (A.under (.builtin "type.__call__" ⟨.ref C :: vs, kw⟩)) (.call (.ref f) ⟨.ref (s.heap.objs.size + 1) :: vs, kw⟩) (PySem.W.InitBack (s.heap.objs.size + 1) R)
      { s with heap := (s.heap.push PySem.W.emptyDict).push (PySem.W.instObj C s.heap.objs.size) }) :
    codeAny (model prog w) A (.call (.ref C) ⟨vs, kw⟩) R s := by
  obtain ⟨hh, g, d, t, os⟩ := s
  exact PySem.W.make_core (PySem.W.makes_of X hm) (PySem.W.looks_findIn X hi) (fun self => PySem.W.bind_fn X self hf) (.inl rfl) h
end

/-! ### the attributes as a list of pairs -/
def putF (f : Str) (v : V) : List (Str × V) → List (Str × V)
  | [] => [(f, v)]
  | (g, x) :: r => if g = f then (g, v) :: r else (g, x) :: putF f v r
theorem lookup_putF (f g : Str) (v : V) : ∀ fs : List (Str × V), (putF f v fs).lookup g = if g = f then some v else fs.lookup g
  | [] => by
    show List.lookup g [(f, v)] = _
    by_cases h : g = f
    · have hb : (g == f) = true := beq_iff_eq.mpr h
      simp only [List.lookup, hb, if_pos h]
    · have hb : (g == f) = false := beq_eq_false_iff_ne.mpr h
      simp only [List.lookup, hb, if_neg h]
  | (k, x) :: r => by
    have ih := lookup_putF f g v r
    rw [show putF f v ((k, x) :: r) = (if k = f then (k, v) :: r else (k, x) :: putF f v r) from rfl]
    by_cases hk : k = f
    · rw [if_pos hk]
      by_cases h : g = k
      · have hb : (g == k) = true := beq_iff_eq.mpr h
        simp only [List.lookup, hb, if_pos (h.trans hk)]
      · have hb : (g == k) = false := beq_eq_false_iff_ne.mpr h
        simp only [List.lookup, hb, if_neg (fun e : g = f => h (e.trans hk.symm))]
    · rw [if_neg hk]
      by_cases h : g = k
      · have hb : (g == k) = true := beq_iff_eq.mpr h
        simp only [List.lookup, hb, if_neg (fun e : g = f => hk (h.symm.trans e))]
      · have hb : (g == k) = false := beq_eq_false_iff_ne.mpr h
        simp only [List.lookup, hb]
        exact ih
theorem keys_putF (f : Str) (v : V) : ∀ fs : List (Str × V), f ∈ (putF f v fs).map (·.1) ∧ ∀ g, g ∈ fs.map (·.1) → g ∈ (putF f v fs).map (·.1)
  | [] => ⟨by simp [putF], fun g h => by simp at h⟩
  | (k, x) :: r => by
    obtain ⟨i1, i2⟩ := keys_putF f v r
    rw [show putF f v ((k, x) :: r) = (if k = f then (k, v) :: r else (k, x) :: putF f v r) from rfl]
    by_cases hk : k = f
    · rw [if_pos hk]
      subst hk
      exact ⟨by simp, fun g h => by simpa using h⟩
    · rw [if_neg hk]
      refine ⟨?_, fun g h => ?_⟩
      · rw [List.map_cons]
        exact List.mem_cons_of_mem _ i1
      · rw [List.map_cons] at h ⊢
        rcases List.mem_cons.mp h with e | e
        · exact List.mem_cons.mpr (.inl e)
        · exact List.mem_cons_of_mem _ (i2 g e)
theorem length_putF (f : Str) (v : V) : ∀ fs : List (Str × V), (putF f v fs).length ≤ fs.length + 1
  | [] => by simp [putF]
  | (k, x) :: r => by
    have ih := length_putF f v r
    rw [show putF f v ((k, x) :: r) = (if k = f then (k, v) :: r else (k, x) :: putF f v r) from rfl]
    by_cases hk : k = f
    · rw [if_pos hk, List.length_cons, List.length_cons]; omega
    · rw [if_neg hk, List.length_cons, List.length_cons]; omega

theorem RelO.some_of {v : V} {o : Option Value} (r : RelO (some v) o) : ∃ u, o = some u ∧ RelV v u := by
  cases o with
  | none => exact (show False from r).elim
  | some u => exact ⟨u, rfl, r⟩
theorem RelO.none_of {o : Option Value} (r : RelO none o) : o = none := by
  cases o with
  | none => rfl
  | some u => exact (show False from r).elim
theorem handed_of {v : V} {u : Value} (r : RelV v u) : PySem.W.handedIn u = true := by
  cases v with
  | non => cases (show u = Value.none from r); rfl
  | bl b => cases (show u = Value.bool b from r); rfl
  | int i => obtain ⟨t, e⟩ := (show ∃ t, u = Value.int i t from r); cases e; rfl
  | str x => obtain ⟨t, e⟩ := (show ∃ t, u = Value.str x t from r); cases e; rfl
  | byt b => obtain ⟨t, e⟩ := (show ∃ t, u = Value.bytes b t from r); cases e; rfl
  | flt b => obtain ⟨t, e⟩ := (show ∃ t, u = Value.float b t from r); cases e; rfl
  | ref a => cases (show u = Value.ref a from r); rfl
  | ty n => cases (show u = Value.type n from r); rfl

section
variable {P : Program} {w : World} {H H' : Hp} {h h' : Heap} {a C dx : Addr} {fs fs' : List (Str × V)}
theorem ins_get (hok : HOk P w H h) (e : H a = some (.ins C dx fs)) : ∃ mA, ObjM h a dx C mA ∧ (∀ f, RelO (fs.lookup f) (mA f)) ∧ PySem.Within mA (fs.map (·.1)) ∧ fs.length ≤ 1000 ∧ H dx = some (.own a) := by
  obtain ⟨d, z, ne, ob, mA, n, r, q⟩ := (show ObjOk P w H h a (.ins C dx fs) from hok a _ e)
  exact ⟨mA, ⟨ob, n, ne⟩, r, q, z, d⟩
end

/-! ### what of the text a class must have -/
structure Cls (K : PySem.W.Frag) (C : Addr) : Prop where
  pg : PySem.W.plainGet K C Str.empty = true
  hd : PySem.W.hasDictIn K C = true
  po : PySem.W.plainOver K C = true
  sa : PySem.W.findIn K (.ref C) "__setattr__" = some (some (.builtin "object.__setattr__"))
theorem Cls.get {K : PySem.W.Frag} {C : Addr} (c : Cls K C) (f : Str) : PySem.W.plainGet K C f = true := c.pg
/-- no class of it has the name -/
def NoAttr (K : PySem.W.Frag) (C : Addr) (f : Str) : Prop := PySem.W.findIn K (.ref C) f = some none
theorem NoAttr.taker {K : PySem.W.Frag} {C : Addr} {f : Str} (n : NoAttr K C f) : PySem.W.takerIn K C f = some none := by
  unfold PySem.W.takerIn
  rw [show PySem.W.findIn K (.ref C) f = some none from n]
  rfl
/-- a constant of the class -/
structure Con (K : PySem.W.Frag) (C : Addr) (f : Str) (v : V) (u : Value) : Prop where
  at_ : PySem.W.findIn K (.ref C) f = some (some u)
  rel : RelV v u
  get : PySem.W.specialIn K u "__get__" = some none
  cp : PySem.W.copiedNames.contains f = false
/-- a method: a plain def of the class or of one above it -/
structure Meth (K : PySem.W.Frag) (C : Addr) (m : Str) (f : Addr) : Prop where
  at_ : PySem.W.findIn K (.ref C) m = some (some (.ref f))
  fn : PySem.W.isFn K (.ref f) = true
  kp : PySem.W.keepIn K (.ref f) = true

section
variable {X : Cx} {pins : List (Addr × Obj)} {σ : St} {H : Hp} {s : Shared} {a C dx : Addr} {fs : List (Str × V)} {f : Str} {v : V} {A : Around} {E : Value → Shared → Prop}

theorem getattr_ok {b : Bool} {Q : Value → Shared → Prop} (I : Inv X pins σ H s) (e : H a = some (.ins C dx fs)) (c : Cls X.K C) (n : NoAttr X.K C f) (l : fs.lookup f = some v)
    (h : ∀ u s', Inv X pins σ H s' → RelV v u → Q u s') : wpAny (model X.prog X.w) A (getAttr (.ref a) f b) Q E s := by
  obtain ⟨mA, O, r, _, _, _⟩ := ins_get I.hok e
  obtain ⟨u, hu, ru⟩ := RelO.some_of (v := v) (o := mA f) (by rw [← l]; exact r f)
  exact get_map I.kIn O (c.get f) c.hd n hu (handed_of ru) (h u _ (I.tok _) ru)

theorem getmeth_ok {m : Str} {g : Addr} {pl : Sem Bool} {Q : Value × List Value → Shared → Prop} (I : Inv X pins σ H s) (e : H a = some (.ins C dx fs)) (c : Cls X.K C) (k : Meth X.K C m g) (l : fs.lookup m = none)
    (h : Q (.ref g, [.ref a]) s) : wpAny (model X.prog X.w) A (getMethod (.ref a) m pl) Q E s := by
  obtain ⟨mA, O, r, _, _, _⟩ := ins_get I.hok e
  have hn : mA m = none := RelO.none_of (by rw [← l]; exact r m)
  exact get_meth I.kIn O (c.get m) k.at_ k.fn hn h

theorem setattr_ok {y : V} {u : Value} {Q : Unit → Shared → Prop} (I : Inv X pins σ H s) (e : H a = some (.ins C dx fs)) (c : Cls X.K C) (n : NoAttr X.K C f) (hl : fs.length < 1000) (ry : RelV y u)
    (h : ∀ s', Inv X pins σ (upd H a (.ins C dx (putF f y fs))) s' → Q () s') : wpAny (model X.prog X.w) A (setAttr (.ref a) f u) Q E s := by
  obtain ⟨mA, O, r, wi, _, ho⟩ := ins_get I.hok e
  have hz : (fs.map (·.1)).length ≤ sizeLine := by rw [List.length_map, sizeLine_eq]; omega
  refine set_map I.kIn O c.sa c.po n.taker c.hd wi hz fun h' O' sb => h _ ?_
  have hd : ∃ o, h'.get? dx = some o := let ⟨o, _, _, e', _⟩ := O'.ns; ⟨o, e'⟩
  refine I.write (x := a) (e := dx) (by rw [e]; exact True.intro) (.inr ho) (fun b q hb z => (sb.2 b hb).trans z) hd ?_
  refine ⟨by rw [upd_ne O.ne]; exact ho, ?_, O.ne, O'.obj, _, O'.ns, fun g => ?_, fun g hg => ?_⟩
  · have := length_putF f y fs; omega
  · show RelO ((putF f y fs).lookup g) (if g = f then some u else mA g)
    rw [lookup_putF]
    by_cases q : g = f
    · rw [if_pos q, if_pos q]; exact ry
    · rw [if_neg q, if_neg q]; exact r g
  · by_cases q : g = f
    · rw [q]; exact (keys_putF f y fs).1
    · refine (keys_putF f y fs).2 g (wi g fun z => hg ?_)
      show (if g = f then some u else mA g) = none
      rw [if_neg q]; exact z

/-- a new instance, tracked, without attributes -/
theorem Inv.made (I : Inv X pins σ H s) : Inv X pins σ (upd (upd H s.heap.objs.size (.own (s.heap.objs.size + 1))) (s.heap.objs.size + 1) (.ins C s.heap.objs.size []))
    { s with heap := (s.heap.push PySem.W.emptyDict).push (PySem.W.instObj C s.heap.objs.size) } := by
  have e1 : (s.heap.push PySem.W.emptyDict).get? s.heap.objs.size = some PySem.W.emptyDict := Heap.get?_push_size s.heap rfl
  have e2 : ((s.heap.push PySem.W.emptyDict).push (PySem.W.instObj C s.heap.objs.size)).get? (s.heap.objs.size + 1) = some (PySem.W.instObj C s.heap.objs.size) := by
    have := Heap.get?_push_size (s.heap.push PySem.W.emptyDict) (o := PySem.W.instObj C s.heap.objs.size) rfl
    rwa [Heap.size_push] at this
  have e3 : (s.heap.push PySem.W.emptyDict).Ns s.heap.objs.size (fun _ => none) := ⟨PySem.W.emptyDict, #[], _, e1, rfl, (fun e he => absurd he (by simp)), fun _ => rfl⟩
  have I1 := I.laid (a := s.heap.objs.size) (o := .own (s.heap.objs.size + 1)) (h' := s.heap.push PySem.W.emptyDict) (t' := s.toks) (fun b u q => Heap.get?_push_of_some _ q) (Nat.le_refl _) ⟨_, e1⟩
  refine I1.laid (a := s.heap.objs.size + 1) (o := .ins C s.heap.objs.size []) (t' := s.toks) (fun b u q => Heap.get?_push_of_some _ q) (Nat.le_of_eq (Heap.size_push _ _)) ?_
  have ne : s.heap.objs.size ≠ s.heap.objs.size + 1 := Nat.ne_of_lt (Nat.lt_succ_self _)
  refine ⟨by rw [upd_ne ne, upd_same], Nat.zero_le _, ne, e2, fun _ => none, (Heap.Ns1.of_empty e3).at fun o q => Heap.get?_push_of_some _ q, fun _ => True.intro, fun y hy => absurd rfl hy⟩

/-- e.f where nothing but the object is asked: through attributeBase (super) and the last hold -/
theorem attr_of {prog : Program} {w : World} {env : Env} {e : Expr} {f : Str} {pos : Pos} {s : Shared} {Q : Value → Shared → Prop} (hb : attributeBase e f env (eval e env) = eval e env)
    (h : wpAny (model prog w) A (eval e env) (fun o s₁ => wpAny (model prog w) A (getAttr o f true) Q E s₁) E s) : wpAny (model prog w) A (eval (.Attribute e f pos) env) Q E s :=
  Attribute_any_ h (by rw [arm_eval_Attribute, hb])
end

/-! ### readings and rules -/
/-- e.f, an attribute of the instance -/
def tFld (K : PySem.W.Frag) (ta : TE) (f : Str) : TE := fun σ H Q => ta σ H fun x H1 => ∃ a C dx fs v, x = .ref a ∧ H1 a = some (.ins C dx fs) ∧ Cls K C ∧ NoAttr K C f ∧ fs.lookup f = some v ∧ Q v H1
/-- e.f = value -/
def sFld (K : PySem.W.Frag) (ta tv : TE) (f : Str) : TS := fun D σ H => tv σ H fun y H1 => ta σ H1 fun x H2 => ∃ a C dx fs, x = .ref a ∧ H2 a = some (.ins C dx fs) ∧ Cls K C ∧ NoAttr K C f ∧ fs.length < 1000 ∧
  D.nx σ (upd H2 a (.ins C dx (putF f y fs)))
section
variable {X : Cx} {o e value : Expr} {f : Str} {pos pos' tpos : Pos} {ta tv : TE}
theorem pe_fld (he : PE X e ta) (hb : attributeBase e f X.env (eval e X.env) = eval e X.env) : PE X (.Attribute e f pos) (tFld X.K ta f) := by
  intro pins s σ H Q I h
  refine attr_of hb (thn (he pins s σ H _ I h) fun u s1 ⟨x, H1, I1, rx, a, C, dx, fs, v, ex, ea, c, n, l, q⟩ => ?_)
  subst ex
  obtain rfl : u = Value.ref a := rx
  exact getattr_ok I1 ea c n l fun u' s2 I2 ru => ⟨v, H1, I2, ru, q⟩
theorem ps_fld (ha : PE X o ta) (hv : PE X value tv) (hs : swapsWith value (some (.Attribute o f pos')) pos.line X.env = pure false) : PS X (.Assign [.Attribute o f pos'] value pos) (sFld X.K ta tv f) := by
  intro pins s σ H D I h
  refine plainObj_wpAny_Assign_Attribute (thn (hv pins s σ H _ I h) fun u s1 ⟨y, H1, I1, ry, q⟩ => thn (ha pins s1 σ H1 _ I1 q) fun ov s2 ⟨x, H2, I2, rx, a, C, dx, fs, ex, ea, c, n, l, q2⟩ => ?_) hs
  subst ex
  obtain rfl : ov = Value.ref a := rx
  exact setattr_ok I2 ea c n l ry fun s3 I3 => ⟨σ, _, I3, q2⟩
end

/-! ### isinstance -/
section
variable {X : Cx} {pins : List (Addr × Obj)} {σ : St} {H : Hp} {s : Shared} {A : Around} {E : Value → Shared → Prop} {Q : Value → Shared → Prop} {c : Value} {b : Bool}
/-- the type of a value, as the fragment's deciders take it; for an instance its class -/
inductive TyOf (K : PySem.W.Frag) (H : Hp) : V → Value → Prop where
  | non : TyOf K H .non (.type "NoneType")
  | bl (x : Bool) : TyOf K H (.bl x) (.type "bool")
  | int (i : Int) : TyOf K H (.int i) (.type "int")
  | str (x : Str) : TyOf K H (.str x) (.type "str")
  | flt (x : UInt64) : TyOf K H (.flt x) (.type "float")
  | lst {a : Addr} {xs : List V} (e : H a = some (.lst xs)) : TyOf K H (.ref a) (.type "list")
  | frz {a : Addr} {o : Obj} {xs : List V} (e : H a = some (.frz o (.lst xs))) : TyOf K H (.ref a) (.type "list")
  | tup {a : Addr} {xs : List V} (e : H a = some (.tup xs)) : TyOf K H (.ref a) (.type "tuple")
  | dK {a : Addr} {kvs : List (Key × V)} (e : H a = some (.dK kvs)) : TyOf K H (.ref a) (.type "dict")
  | dT {a : Addr} {kvs : List (List Key × V)} (e : H a = some (.dT kvs)) : TyOf K H (.ref a) (.type "dict")
  | ins {a C dx : Addr} {fs : List (Str × V)} (e : H a = some (.ins C dx fs)) (cl : Cls K C) (ha : PySem.W.findIn K (.ref C) "__class__" = some (some (.builtin "object.__class__")))
      (hn : PySem.W.specialIn K (.builtin "object.__class__") "__get__" = some (some (.builtin "getset_descriptor.__get__"))) (htk : PySem.W.takesIn K (.builtin "object.__class__") = some true)
      (hm : PySem.W.mroIn K C (.type "object") = some true) : TyOf K H (.ref a) (.ref C)
end
end L2

namespace L2
open PySem PySem.Spec PyProof.Rows

/-! ### room -/
structure Room (k : Nat) (A : Around) : Prop where
  hd : A.handled = none
  dp : A.depth + 3 * k + 5 < recursionLimit
  un : A.units + 16 * k + 200 < cLine
theorem Room.mono {j k : Nat} {A : Around} (r : Room k A) (h : j ≤ k) : Room j A := ⟨r.hd, by have := r.dp; omega, by have := r.un; omega⟩
theorem Room.deeper {k : Nat} {A : Around} (r : Room (k + 1) A) (env : Env) : Room k (A.deeper env) :=
  ⟨r.hd, by have := r.dp; show A.depth + 1 + 3 * k + 5 < _; omega, by have := r.un; show A.units + 3 + 16 * k + 200 < _; omega⟩
theorem make_depth {A : Around} {C : Addr} {us : List Value} {kw : List (Str × Value)} : (A.under (.builtin "type.__call__" ⟨.ref C :: us, kw⟩)).depth = A.depth + 1 := by
  first | rfl | simp [Around.under, Code.weight, Code.isCreation, Code.isGuard, Code.isCaller, Code.frames, Code.isFrame, guardIds]
theorem make_units {A : Around} {C : Addr} {us : List Value} {kw : List (Str × Value)} : (A.under (.builtin "type.__call__" ⟨.ref C :: us, kw⟩)).units = A.units + 1 := by
  first | rfl | simp [Around.under, Code.cUnits, Code.frames, Code.isFrame]
theorem Room.make {k : Nat} {A : Around} (r : Room (k + 1) A) (C : Addr) (us : List Value) (kw : List (Str × Value)) : Room k (A.under (.builtin "type.__call__" ⟨.ref C :: us, kw⟩)) :=
  ⟨r.hd, by have := r.dp; rw [make_depth]; omega, by have := r.un; rw [make_units]; omega⟩
theorem Room.depth {k : Nat} {A : Around} (r : Room k A) : A.depth < recursionLimit := by have := r.dp; omega
/-! ### argument lists and displays -/
def tNil : TA := fun _ H Q => Q [] H
def tCons (ta : TE) (tr : TA) : TA := fun σ H Q => ta σ H fun x H1 => tr σ H1 fun xs H2 => Q (x :: xs) H2
section
variable {X : Cx} {e : Expr} {es : List Expr} {te : TE} {t : TA} {pos : Pos}
theorem pa_nil : PA X [] tNil := fun _ _ _ _ H Q I h => Calls.spliced_nil ⟨[], H, I, .nil, h⟩
theorem pa_cons (ha : PE X e te) (hr : PA X es t) (hs : starEach (e :: es) X.env = (false, eval e X.env) :: starEach es X.env := by rfl) : PA X (e :: es) (tCons te t) := by
  intro pos pins s σ H Q I h
  rw [hs]
  show wpAny _ _ (spliced ((false, eval e X.env) :: backTo pos (starEach es X.env))) _ _ s
  refine Calls.spliced_cons (thn (ha pins s σ H _ I h) fun u s1 ⟨x, H1, I1, r1, q1⟩ => ?_)
  exact thn (hr pos pins s1 σ H1 _ I1 q1) fun us s2 ⟨xs, H2, I2, r2, q2⟩ => ⟨x :: xs, H2, I2, .cons r1 r2, q2⟩

def tLst (t : TA) : TE := fun σ H Q => t σ H fun xs H1 => xs.length ≤ sizeLine ∧ ∀ p, H1 p = none → Q (.ref p) (upd H1 p (.lst xs))
theorem pe_lst (h : PA X es t) : PE X (.List es pos) (tLst t) := by
  intro pins s σ H Q I hq
  refine wpAny_List_spliced (thn (h pos pins s σ H _ I hq) fun us s1 ⟨xs, H1, I1, r, z, q⟩ => ⟨by rw [← r.length]; exact z, ?_⟩)
  have hf : H1 s1.heap.objs.size = none := I1.hok.fresh (Nat.le_refl _)
  refine ⟨.ref s1.heap.objs.size, upd H1 s1.heap.objs.size (.lst xs), I1.laid (t' := s1.toks) (fun b u e => Heap.get?_push_of_some _ e) (Nat.le_refl _) ?_, rfl, q _ hf⟩
  exact ⟨z, us, 0, r, Heap.get?_push_size _ rfl⟩
end

/-! ### what a def promises -/
/-- a def's promise: the bound arguments in the parameters' order, the heap, the wanted end, the wanted exception -/
abbrev Sp := List V → Hp → VK → XK → Prop
/-- how an exception lies behind a call (file 08 gives it): the callers' frames, abstract heap and state ahead of the call, the wish, the exception, the state -/
abbrev CXT := List Env → Hp → Shared → XK → Value → Shared → Prop

/-- the state at a call -/
structure Env0 (P : Program) (w : World) (K : PySem.W.Frag) (mg : Str → Option Value) (base : Heap) (A : Around) (outer : List Env) (s : Shared) (H : Hp) : Prop where
  frames : A.frames = some outer
  mod : Mod K mg base
  bs : ∀ b o, base.get? b = some o → s.heap.get? b = some o ∧ H b = none
  bsz : base.objs.size ≤ s.heap.objs.size
  funs : s.heap.FunFrames base outer
  frf : ∀ b ∈ frs outer, H b = none
  hok : HOk P w H s.heap
  bare : AllBare s.gens
/-- a call's end -/
def CE (outer : List Env) (P : Program) (w : World) (H : Hp) (s : Shared) (Q : VK) (u : Value) (s' : Shared) : Prop :=
  ∃ v H', s'.os = s.os ∧ AllBare s'.gens ∧ Un (frs outer) [] H H' s.heap s'.heap ∧ HOk P w H' s'.heap ∧ RelV v u ∧ Q v H'
def CR (CX : CXT) (outer : List Env) (P : Program) (w : World) (H : Hp) (s : Shared) (Q : VK) (E : XK) (r : Result) (s' : Shared) : Prop :=
  match r with
  | .ok (.ret u) => CE outer P w H s Q u s'
  | .ok _ => False
  | .error e => CX outer H s E e s'
structure FnOk (P : Program) (w : World) (K : PySem.W.Frag) (mg : Str → Option Value) (base : Heap) (CX : CXT) (k : Nat) (f : Addr) (fd : FuncData) (ps : List Str) (sp : Sp) : Prop where
  len : ∀ vs H Q E, sp vs H Q E → vs.length = ps.length
  run : ∀ (A : Around) (outer : List Env) (s : Shared) (H : Hp) (args : Args) (us : List Value) (vs : List V) (Q : VK) (E : XK), Room k A → Env0 P w K mg base A outer s H → BindsTo s fd args (ps.zip us) → Vals vs us → sp vs H Q E →
    codeAny (model P w) A (.call (.ref f) args) (CR CX outer P w H s Q E) s
theorem FnOk.mono {P : Program} {w : World} {K : PySem.W.Frag} {mg : Str → Option Value} {base : Heap} {CX : CXT} {j k : Nat} {f : Addr} {fd : FuncData} {ps : List Str} {sp : Sp} (F : FnOk P w K mg base CX j f fd ps sp) (h : j ≤ k) :
    FnOk P w K mg base CX k f fd ps sp := ⟨F.len, fun A outer s H args us vs Q E hr => F.run A outer s H args us vs Q E (hr.mono h)⟩
theorem Env0.make {P : Program} {w : World} {K : PySem.W.Frag} {mg : Str → Option Value} {base : Heap} {A : Around} {outer : List Env} {s : Shared} {H : Hp} (e : Env0 P w K mg base A outer s H) (C : Addr) (us : List Value) (kw : List (Str × Value)) :
    Env0 P w K mg base (A.under (.builtin "type.__call__" ⟨.ref C :: us, kw⟩)) outer s H := ⟨by first | exact e.frames | (simpa [Around.under, Code.envs, Code.isFrame, pushEnvs] using e.frames), e.mod, e.bs, e.bsz, e.funs, e.frf, e.hok, e.bare⟩
section
variable {X : Cx} {pins : List (Addr × Obj)} {σ : St} {H : Hp} {s s' : Shared}
/-- from a body: what a callee wants -/
theorem Inv.env0 (I : Inv X pins σ H s) : Env0 X.prog X.w X.K X.mg X.base X.A X.stack s H :=
  ⟨I.ok.frames, I.ok.mod, I.bs, Nat.le_trans I.ok.bsz I.sz, I.stack, I.stkFree, I.hok, I.bare⟩
/-- behind a call -/
theorem Inv.after {Q : VK} {u : Value} (I : Inv X pins σ H s) (h : CE X.stack X.prog X.w H s Q u s') : EP X pins σ Q u s' := by
  obtain ⟨v, H', os, bare, un, hok, r, q⟩ := h
  obtain ⟨hh, g, d, t, os'⟩ := s'
  obtain rfl : os' = s.os := os
  exact ⟨v, H', I.call (h' := hh) (g' := g) (d' := d) (t' := t) (ch := []) un hok bare (fun b z => absurd z (by simp)), r, q⟩
end

/-! ### calls -/
/-- f(..): the written arguments, then the defaults dvs; E: what is wanted of an exception -/
def tCall (sp : Sp) (dvs : List V) (E : XK) (t : TA) : TE := fun σ H Q => t σ H fun vs H1 => sp (vs ++ dvs) H1 Q E
/-- o.m(..) of an instance of the class at C -/
def tMeth (C : Addr) (m : Str) (sp : Sp) (dvs : List V) (E : XK) (ta : TE) (t : TA) : TE := fun σ H Q => ta σ H fun x H1 => ∃ a dx fs, x = .ref a ∧ H1 a = some (.ins C dx fs) ∧ fs.lookup m = none ∧
  t σ H1 fun vs H2 => sp (x :: (vs ++ dvs)) H2 Q E
/-- C(..): a new instance and its dict, then __init__ -/
def tMake (C : Addr) (sp : Sp) (dvs : List V) (E : XK) (t : TA) : TE := fun σ H Q => t σ H fun vs H1 => ∀ x dx, H1 x = none → H1 dx = none → dx ≠ x →
  sp (.ref x :: (vs ++ dvs)) (upd (upd H1 dx (.own x)) x (.ins C dx [])) (fun v H2 => v = .non ∧ Q (.ref x) H2) E

/-- how the parameters are bound: us the positional arguments, kw the keywords' values by name, ds the defaults that fill up -/
def Binds (K : PySem.W.Frag) (fd : FuncData) (ps : List Str) (ds : List Value) : Prop :=
  ∀ (s : Shared) (us : List Value), K.In s.heap → (us ++ ds).length = ps.length → BindsTo s fd ⟨us, []⟩ (ps.zip (us ++ ds))
/-- every parameter is given -/
theorem Binds.all {K : PySem.W.Frag} {fd : FuncData} {ps : List Str} (h : ∀ us : List Value, us.length = ps.length → bindArgs fd ⟨us, []⟩ = pure (ps.zip us)) : Binds K fd ps [] := fun s us _ hl => by
  rw [List.append_nil] at hl ⊢
  exact .of_eq (h us hl)

/-- an exception of a callee reaches what this body wants of exceptions -/
def Passes (CX : CXT) (X : Cx) (E : XK) : Prop := ∀ (pins : List (Addr × Obj)) (σ : St) (H : Hp) (s : Shared) (e : Value) (s' : Shared), Inv X pins σ H s → CX X.stack H s E e s' → X.xe e s'

section
variable {X : Cx} {CX : CXT} {k : Nat} {f C : Addr} {fd : FuncData} {ps : List Str} {sp : Sp} {dvs : List V} {ds : List Value} {E : XK} {x m : Str} {p pos apos : Pos} {e o : Expr} {es : List Expr} {ta : TE} {t : TA}

/-- the callee runs -/
theorem run_fn {pins : List (Addr × Obj)} {σ : St} {H : Hp} {s : Shared} {Q : VK} {us : List Value} {vs : List V} (F : FnOk X.prog X.w X.K X.mg X.base CX k f fd ps sp) (hr : Room k X.A) (hb : Binds X.K fd ps ds) (hd : Vals dvs ds) (hx : Passes CX X E)
    (I : Inv X pins σ H s) (r : Vals vs us) (h : sp (vs ++ dvs) H Q E) : wpAny (model X.prog X.w) X.A (call (.ref f) us) (EP X pins σ Q) X.xe s := by
  have r2 : Vals (vs ++ dvs) (us ++ ds) := r.append hd
  have hl : (us ++ ds).length = ps.length := by rw [← r2.length]; exact F.len _ _ _ _ h
  refine wpAny_call (codeAny_mono (F.run X.A X.stack s H ⟨us, []⟩ (us ++ ds) (vs ++ dvs) Q E hr I.env0 (hb s us I.kIn hl) r2 h) fun r s' hq => ?_)
  cases r with
  | error e => exact hx pins σ H s e s' I hq
  | ok fl =>
    cases fl with
    | ret u => exact I.after hq
    | next => exact False.elim hq
    | brk => exact False.elim hq
    | cont => exact False.elim hq

theorem pe_call (F : FnOk X.prog X.w X.K X.mg X.base CX k f fd ps sp) (hr : Room k X.A) (hg : Gl X x) (hm : X.mg x = some (.ref f)) (hk : PySem.W.keepIn X.K (.ref f) = true) (hb : Binds X.K fd ps ds) (hd : Vals dvs ds) (hx : Passes CX X E)
    (ha : PA X (e :: es) t) (hdb : (x == ("__debug__" : Str)) = false := by decide) (he : starEach (e :: es) X.env = (false, eval e X.env) :: starEach es X.env := by rfl) (hpl : (backTo pos (starEach es X.env)).any (·.1) = false := by rfl) :
    PE X (.Call (.Name x p) (e :: es) [] pos) (tCall sp dvs E t) := by
  intro pins s σ H Q I h
  refine wpAny_Call_Name_kw (ld_glob I hg hm ?_ hdb)
  refine PySem.W.callWith_K (h₀ := X.base) I.ok.mod.kin hk (thn (ha pos pins s σ H _ I h) fun us s1 ⟨vs, H1, I1, r, q⟩ => ⟨I1.kIn, ?_⟩) he hpl
  exact run_fn F hr hb hd hx I1 r q
/-- o.m(e, ..) -/
theorem pe_meth {pl : Sem Bool} (he : PE X o ta) (c : Cls X.K C) (hm : Meth X.K C m f) (F : FnOk X.prog X.w X.K X.mg X.base CX k f fd ps sp) (hr : Room k X.A) (hb : Binds X.K fd ps ds) (hd : Vals dvs ds) (hx : Passes CX X E) (ha : PA X (e :: es) t)
    (hst : starEach (e :: es) X.env = (false, eval e X.env) :: starEach es X.env := by rfl) (hpl : (backTo pos (starEach es X.env)).any (·.1) = false := by rfl)
    (ht : eval (.Call (.Attribute o m apos) (e :: es) [] pos) X.env = (do
      let ov ← eval o X.env
      standAt apos.atName
      let (f, first) ← holding [ov] (getMethod ov m pl)
      callWith pos f first (backTo pos (starEach (e :: es) X.env)) (backToKw pos (keywordEach [] X.env))) := by rfl) :
    PE X (.Call (.Attribute o m apos) (e :: es) [] pos) (tMeth C m sp dvs E ta t) := by
  intro pins s σ H Q I h
  refine PySem.W.methodCall_KW (pl := pl) (thn (he pins s σ H _ I h) fun u s1 ⟨x, H1, I1, rx, a, dx, fs, ex, ea, l, q⟩ => ?_) ht
  subst ex
  obtain rfl : u = Value.ref a := rx
  refine getmeth_ok I1 ea c hm l ?_
  refine PySem.W.callWith_K (first := [.ref a]) (h₀ := X.base) I.ok.mod.kin hm.kp (thn (ha pos pins s1 σ H1 _ I1 q) fun us s2 ⟨vs, H2, I2, r, q2⟩ => ⟨I2.kIn, ?_⟩) hst hpl
  exact run_fn (us := .ref a :: us) (vs := .ref a :: vs) F hr hb hd hx I2 (.cons rfl r) q2
/-- o.m() -/
theorem pe_meth0 {pl : Sem Bool} (he : PE X o ta) (c : Cls X.K C) (hm : Meth X.K C m f) (F : FnOk X.prog X.w X.K X.mg X.base CX k f fd ps sp) (hr : Room k X.A) (hb : Binds X.K fd ps ds) (hd : Vals dvs ds) (hx : Passes CX X E)
    (ht : eval (.Call (.Attribute o m apos) [] [] pos) X.env = (do
      let ov ← eval o X.env
      standAt apos.atName
      let (f, first) ← holding [ov] (getMethod ov m pl)
      callWith pos f first (backTo pos (starEach [] X.env)) (backToKw pos (keywordEach [] X.env))) := by rfl) :
    PE X (.Call (.Attribute o m apos) [] [] pos) (tMeth C m sp dvs E ta tNil) := by
  intro pins s σ H Q I h
  refine PySem.W.methodCall_KW (pl := pl) (thn (he pins s σ H _ I h) fun u s1 ⟨x, H1, I1, rx, a, dx, fs, ex, ea, l, q⟩ => ?_) ht
  subst ex
  obtain rfl : u = Value.ref a := rx
  refine getmeth_ok I1 ea c hm l ?_
  exact PySem.W.callWith_K0 (first := [.ref a]) I1.kIn hm.kp (run_fn (us := [.ref a]) (vs := [.ref a]) F hr hb hd hx I1 (.cons rfl .nil) q)

/-- what a class must have to be made -/
structure Mk (K : PySem.W.Frag) (C f : Addr) : Prop where
  makes : PySem.W.makesIn K C = true
  init : PySem.W.findIn K (.ref C) "__init__" = some (some (.ref f))
  fn : PySem.W.isFn K (.ref f) = true
  kp : PySem.W.keepIn K (.ref C) = true

theorem run_make {pins : List (Addr × Obj)} {σ : St} {H : Hp} {s : Shared} {Q : VK} {us : List Value} {vs : List V} (M : Mk X.K C f) (F : FnOk X.prog X.w X.K X.mg X.base CX k f fd ps sp) (hr : Room (k + 1) X.A) (hb : Binds X.K fd ps ds) (hd : Vals dvs ds)
    (hx : Passes CX X E) (I : Inv X pins σ H s) (r : Vals vs us)
    (h : ∀ x dx, H x = none → H dx = none → dx ≠ x → sp (.ref x :: (vs ++ dvs)) (upd (upd H dx (.own x)) x (.ins C dx [])) (fun v H2 => v = .non ∧ Q (.ref x) H2) E) :
    wpAny (model X.prog X.w) X.A (call (.ref C) us) (EP X pins σ Q) X.xe s := by
  have hq := h (s.heap.objs.size + 1) s.heap.objs.size (I.hok.fresh (Nat.le_succ _)) (I.hok.fresh (Nat.le_refl _)) (Nat.ne_of_lt (Nat.lt_succ_self _))
  have I2 := Inv.made (C := C) I
  have r2 : Vals (V.ref (s.heap.objs.size + 1) :: (vs ++ dvs)) (Value.ref (s.heap.objs.size + 1) :: (us ++ ds)) := .cons rfl (r.append hd)
  have hl : (Value.ref (s.heap.objs.size + 1) :: us ++ ds).length = ps.length := by
    have e := r2.length
    rw [F.len _ _ _ _ hq] at e
    exact e.symm
  refine wpAny_call (make_map (f := f) I.kIn M.makes M.init (beq_iff_eq.mp M.fn) (codeAny_mono (F.run _ X.stack _ _ ⟨Value.ref (s.heap.objs.size + 1) :: us, []⟩ (Value.ref (s.heap.objs.size + 1) :: (us ++ ds)) _ _ E (hr.make C us [])
    (I2.env0.make C us []) (hb _ (Value.ref (s.heap.objs.size + 1) :: us) I2.kIn hl) r2 hq) fun r s' hq' => ?_))
  cases r with
  | error e => exact hx pins σ _ _ e s' I2 hq'
  | ok fl =>
    cases fl with
    | ret u =>
      obtain ⟨v, H', I3, rv, ev, q3⟩ := I2.after hq'
      subst ev
      exact ⟨rv, ⟨V.ref (s.heap.objs.size + 1), H', I3, rfl, q3⟩⟩
    | next => exact False.elim hq'
    | brk => exact False.elim hq'
    | cont => exact False.elim hq'
theorem pe_make (M : Mk X.K C f) (F : FnOk X.prog X.w X.K X.mg X.base CX k f fd ps sp) (hr : Room (k + 1) X.A) (hg : Gl X x) (hm : X.mg x = some (.ref C)) (hb : Binds X.K fd ps ds) (hd : Vals dvs ds) (hx : Passes CX X E)
    (ha : PA X (e :: es) t) (hdb : (x == ("__debug__" : Str)) = false := by decide) (he : starEach (e :: es) X.env = (false, eval e X.env) :: starEach es X.env := by rfl) (hpl : (backTo pos (starEach es X.env)).any (·.1) = false := by rfl) :
    PE X (.Call (.Name x p) (e :: es) [] pos) (tMake C sp dvs E t) := by
  intro pins s σ H Q I h
  refine wpAny_Call_Name_kw (ld_glob I hg hm ?_ hdb)
  refine PySem.W.callWith_K (h₀ := X.base) I.ok.mod.kin M.kp (thn (ha pos pins s σ H _ I h) fun us s1 ⟨vs, H1, I1, r, q⟩ => ⟨I1.kIn, ?_⟩) he hpl
  exact run_make M F hr hb hd hx I1 r q
theorem pe_make0 (M : Mk X.K C f) (F : FnOk X.prog X.w X.K X.mg X.base CX k f fd ps sp) (hr : Room (k + 1) X.A) (hg : Gl X x) (hm : X.mg x = some (.ref C)) (hb : Binds X.K fd ps ds) (hd : Vals dvs ds) (hx : Passes CX X E)
    (hdb : (x == ("__debug__" : Str)) = false := by decide) : PE X (.Call (.Name x p) [] [] pos) (tMake C sp dvs E tNil) := by
  intro pins s σ H Q I h
  refine wpAny_Call_Name_kw (ld_glob I hg hm ?_ hdb)
  exact PySem.W.callWith_K0 I.kIn M.kp (run_make (us := []) M F hr hb hd hx I .nil h)
end

/-! ### keywords -/
section
variable {X : Cx} {CX : CXT} {k : Nat} {f C : Addr} {fd : FuncData} {ps ks : List Str} {sp : Sp} {E : XK} {x m : Str} {p pos apos kpos : Pos} {e o : Expr} {es : List Expr} {kws : List Keyword} {te ta : TE} {t tk : TA} {nm : Option Str}
/-- how a call with keywords binds: g puts the positional values us and the keywords' values ws (names ks) in the parameters' order, defaults among them -/
structure KBinds (K : PySem.W.Frag) (fd : FuncData) (ps ks : List Str) (g : List Value → List Value → List Value) (gV : List V → List V → List V) : Prop where
  to : ∀ (s : Shared) (us ws : List Value), K.In s.heap → (g us ws).length = ps.length → BindsTo s fd ⟨us, ks.zip ws⟩ (ps.zip (g us ws))
  rel : ∀ {vs : List V} {us : List Value} {zs : List V} {ws : List Value}, Vals vs us → Vals zs ws → Vals (gV vs zs) (g us ws)
variable {g : List Value → List Value → List Value} {gV : List V → List V → List V}
end

/-! ### a def's body keeps its promise -/
/-- names: the parameters first -/
structure FnScope (N P : List Str) (sc : Scope) : Prop where
  kind : sc.kind = .function
  co : sc.isCoroutine = false
  gen : sc.isGenerator = false
  nd : N.Nodup
  pre : N.take P.length = P
  par : ∀ x ∈ P, sc.names.lookup x = some .local ∨ sc.names.lookup x = some .cell
  nofree : ∀ y ∈ sc.names, y.2 ≠ .free

theorem bindL_out {kindOf : Str → Option NameKind} {x : Str} : ∀ {binds : List (Str × Value)} {m : Str → Option Value}, (∀ v, (x, v) ∉ binds) → bindL kindOf binds m x = m x
  | [], _, _ => rfl
  | (n, v) :: r, m, h => by
    unfold bindL
    rw [bindL_out fun w hw => h w (List.mem_cons_of_mem _ hw)]
    split
    · have : x ≠ n := by rintro rfl; exact h v List.mem_cons_self
      simp [this]
    · rfl
theorem bindC_out {kindOf : Str → Option NameKind} {x : Str} : ∀ {binds : List (Str × Value)} {m : Str → Option Value}, (∀ v, (x, v) ∉ binds) → bindC kindOf binds m x = m x
  | [], _, _ => rfl
  | (n, v) :: r, m, h => by
    unfold bindC
    rw [bindC_out fun w hw => h w (List.mem_cons_of_mem _ hw)]
    split
    · rfl
    · have : x ≠ n := by rintro rfl; exact h v List.mem_cons_self
      simp [this]
theorem bindL_get {kindOf : Str → Option NameKind} {x : Str} {v : Value} : ∀ {P : List Str} {vs : List Value} {i : Nat} {m : Str → Option Value}, P.Nodup → P[i]? = some x → vs[i]? = some v → kindOf x = some .local →
    bindL kindOf (P.zip vs) m x = some v
  | [], _, _, _, _, h, _, _ => by simp at h
  | _ :: _, [], _, _, _, _, h, _ => by simp at h
  | p :: P, w :: vs, 0, m, nd, h1, h2, hk => by
    simp at h1 h2; subst h1; subst h2
    show bindL kindOf ((p, w) :: P.zip vs) m p = _
    unfold bindL
    rw [bindL_out fun v hv => (List.nodup_cons.mp nd).1 (List.of_mem_zip hv).1, if_pos hk]
    simp
  | p :: P, w :: vs, i + 1, m, nd, h1, h2, hk => by
    show bindL kindOf ((p, w) :: P.zip vs) m x = _
    unfold bindL
    exact bindL_get (i := i) (List.nodup_cons.mp nd).2 (by simpa using h1) (by simpa using h2) hk
theorem bindC_get {kindOf : Str → Option NameKind} {x : Str} {v : Value} : ∀ {P : List Str} {vs : List Value} {i : Nat} {m : Str → Option Value}, P.Nodup → P[i]? = some x → vs[i]? = some v → kindOf x ≠ some .local →
    bindC kindOf (P.zip vs) m x = some v
  | [], _, _, _, _, h, _, _ => by simp at h
  | _ :: _, [], _, _, _, _, h, _ => by simp at h
  | p :: P, w :: vs, 0, m, nd, h1, h2, hk => by
    simp at h1 h2; subst h1; subst h2
    show bindC kindOf ((p, w) :: P.zip vs) m p = _
    unfold bindC
    rw [bindC_out fun v hv => (List.nodup_cons.mp nd).1 (List.of_mem_zip hv).1, if_neg hk]
    simp
  | p :: P, w :: vs, i + 1, m, nd, h1, h2, hk => by
    show bindC kindOf ((p, w) :: P.zip vs) m x = _
    unfold bindC
    exact bindC_get (i := i) (List.nodup_cons.mp nd).2 (by simpa using h1) (by simpa using h2) hk

/-- the names' values at the entry -/
def start (N : List Str) (vs : List V) : St := vs.map some ++ List.replicate (N.length - vs.length) none

/-- the context of a def's body, at its entry; an exception leaves the frame, then lies as CX says -/
def cxOf (CX : CXT) (P : Program) (w : World) (K : PySem.W.Frag) (mg : Str → Option Value) (base : Heap) (N : List Str) (qual : Str) (scope : Scope) (f : Addr) (cd : Value) (A : Around) (outer : List Env) (s : Shared) (H : Hp) (E : XK) : Cx where
  prog := P
  w := w
  K := K
  mg := mg
  base := base
  A := A.deeper (envOfC qual scope s.heap.objs.size f cd)
  N := N
  s_0 := s
  H_0 := H
  env := envOfC qual scope s.heap.objs.size f cd
  outer := outer
  stack := envOfC qual scope s.heap.objs.size f cd :: outer
  ex := []
  calm := true
  fn := fun _ => true
  pn := []
  xe := fun e s' => wpAny (model P w) (A.deeper (envOfC qual scope s.heap.objs.size f cd)) (leaving (envOfC qual scope s.heap.objs.size f cd) e) (fun _ s'' => CX outer H s E e s'') (fun e' s'' => CX outer H s E e' s'') s'

theorem cell_has {sc : Scope} {n : Nat} {x : Str} (h : sc.names.lookup x = some .cell) : ∃ c, (cellsFrom n sc.names []).lookup x = some c := by
  have q := PySem.W.cellsFrom_some sc.names n [] (.inl h)
  exact Option.isSome_iff_exists.mp q

theorem inv_start {CX : CXT} {P : Program} {w : World} {K : PySem.W.Frag} {mg : Str → Option Value} {base : Heap} {N ps : List Str} {qual : Str} {scope : Scope} {f : Addr} {cd : Value} {A : Around} {outer : List Env} {s s1 : Shared} {H : Hp} {E : XK} {us : List Value} {vs : List V}
    (S : FnScope N ps scope) (hd : A.handled = none) (e0 : Env0 P w K mg base A outer s H) (hl : vs.length = ps.length) (r : Vals vs us)
    (x : InCallC s s.heap.objs.size (bindL (envOfC qual scope s.heap.objs.size f cd).kindOf (ps.zip us) fun _ => none) (cellsFrom (s.heap.objs.size + 1) scope.names []) (bindC (envOfC qual scope s.heap.objs.size f cd).kindOf (ps.zip us) fun _ => none) s1) :
    Inv (cxOf CX P w K mg base N qual scope f cd A outer s H E) [] (start N vs) H s1 := by
  have hpl : ps.length ≤ N.length := by have := congrArg List.length S.pre; rw [List.length_take] at this; omega
  obtain ⟨h1, tk, rfl, hk⟩ := x.done
  have noA : ∀ b : Addr, b ∉ (cxOf CX P w K mg base N qual scope f cd A outer s H E).ex := fun b z => absurd (show b ∈ ([] : List Addr) from z) (by simp)
  refine ⟨⟨e0.mod, S.kind, rfl, rfl, Nat.le_refl _, fun y z c h1 h2 => ?_, fun y hy => ?_, fun y c _ h => ?_, fun _ => hd, Around.frames_deeper e0.frames, .inr ⟨rfl, rfl⟩, fun b z => absurd z (noA b), e0.bs, e0.bsz, fun b _ _ => noA b, fun b z => absurd z (noA b), e0.funs, e0.frf⟩,
    rfl, e0.bare, Un.kept hk, ⟨_, x.toInCall.ns, fun i y v h1 h2 h3 => ?_⟩, fun y c h => ⟨_, x.cell y c h⟩, e0.hok.fresh (Nat.le_refl _), fun y c h => ?_, fun p hp => absurd (show p ∈ ([] : List (Addr × Obj)) from hp) (by simp), e0.hok.kept hk, ?_⟩
  · exact name_of_addr x.apart (PySem.mem_of_lookup h1) (PySem.mem_of_lookup h2)
  · have hy : scope.names.lookup y = some .cell ∨ scope.names.lookup y = some .free := hy
    rcases hy with hy | hy
    · exact cell_has hy
    · exact absurd rfl (S.nofree _ (PySem.mem_of_lookup hy))
  · exact Nat.le_of_lt (x.above y c (PySem.mem_of_lookup h))
  · have hi : i < vs.length := by
      unfold start at h2
      by_cases hi : i < vs.length
      · exact hi
      · rw [List.getElem?_append_right (by simpa using hi)] at h2
        rw [List.getElem?_replicate] at h2
        split at h2 <;> cases h2
    have ha : vs[i]? = some v := by
      unfold start at h2
      rw [List.getElem?_append_left (by simpa using hi), List.getElem?_map] at h2
      cases e : vs[i]? with
      | none => rw [e] at h2; cases h2
      | some a => rw [e] at h2; cases h2; rfl
    obtain ⟨u, hu, rv⟩ := r.get ha
    have hp : ps[i]? = some y := by
      rw [← S.pre, List.getElem?_take_of_lt (by omega)]; exact h1
    have ndP : ps.Nodup := by rw [← S.pre]; exact S.nd.sublist (List.take_sublist _ _)
    refine ⟨u, rv, ?_⟩
    rcases S.par y (List.mem_of_getElem? hp) with k | k
    · exact .inl ⟨k, bindL_get ndP hp hu k⟩
    · obtain ⟨c, e⟩ := cell_has (n := s.heap.objs.size + 1) k
      refine .inr ⟨.inl k, c, e, ?_⟩
      have q := x.cell y c e
      rw [bindC_get ndP hp hu (by show scope.names.lookup y ≠ _; rw [k]; decide)] at q
      exact q
  · exact e0.hok.fresh (Nat.le_of_lt (x.above y c (PySem.mem_of_lookup h)))
  · unfold start
    show _ = N.length
    rw [List.length_append, List.length_map, List.length_replicate]
    omega

/-- THE RULE: a def (or a method) of the text, by its body. The body's reading t is chosen for each entry; it is run at the parameters' values -/
theorem fn_of {CX : CXT} {P : Program} {w : World} {K : PySem.W.Frag} {mg : Str → Option Value} {base : Heap} {k : Nat} {f : Addr} {name qual : Str} {params : Arguments} {body : List Stmt} {scope : Scope} {dV kV doc pm cdv ct oc : Value} {an od : Option Addr}
    {osl : Array (Option Value)} {N ps : List Str} {sp : Sp} (lk : K.lookup f = some ⟨oc, od, .func (PySem.W.fnOf name qual params body scope dV kV doc pm an cdv ct), osl⟩) (hcd : PySem.W.codeIn K cdv qual = true) (S : FnScope N ps scope)
    (len : ∀ vs H Q E, sp vs H Q E → vs.length = ps.length)
    (hbody : ∀ (A : Around) (outer : List Env) (s : Shared) (H : Hp) (vs : List V) (Q : VK) (E : XK), Room k (A.deeper (envOfC qual scope s.heap.objs.size f cdv)) → sp vs H Q E →
      ∃ t, PSs (cxOf CX P w K mg base N qual scope f cdv A outer s H E) body t ∧ t { nx := fun _ H' => Q .non H', rt := Q } (start N vs) H) :
    FnOk P w K mg base CX (k + 1) f (PySem.W.fnOf name qual params body scope dV kV doc pm an cdv ct) ps sp := by
  refine ⟨len, fun A outer s H args us vs Q E hr e0 hb r hsp => ?_⟩
  have hl := len _ _ _ _ hsp
  have KX : K.In s.heap := e0.mod.kin.keeps fun b o e => (e0.bs b o e).1
  have lim : s.heap.NoLimit := e0.mod.nolimit.keeps fun b o e => (e0.bs b o e).1
  have hkind : ∀ y ∈ ps.zip us, scope.names.lookup y.1 = some .local ∨ (scope.names.lookup y.1 = some .cell ∧ ((cellsFrom (s.heap.objs.size + 1) scope.names []).lookup y.1).isSome = true) := fun ⟨n, v⟩ hy => by
    rcases S.par n (List.of_mem_zip hy).1 with q | q
    · exact .inl q
    · exact .inr ⟨q, PySem.W.cellsFrom_some _ _ _ (.inl q)⟩
  refine codeAny_call_function hr.depth (KX _ _ lk) rfl S.co S.gen rfl (PySem.W.codeRec_of KX hcd) (hb _ _ _ _ ?_)
  refine wpAny_newFunctionEnv_cells S.kind hkind fun env he s1 x => ?_
  subst he
  refine ⟨lim.keeps x.toInCall.keep, codeAny_func ?_⟩
  obtain ⟨t, ht, hq⟩ := hbody A outer s H vs Q E (hr.deeper _) hsp
  have I : Inv (cxOf CX P w K mg base N qual scope f cdv A outer s H E) [] (start N vs) H s1 := inv_start S hr.hd e0 hl r x
  refine wpAny_mono (ht [] s1 (start N vs) H _ I hq) (fun fl s' hs => ?_) fun e s' hs => hs
  have fin : ∀ {σ' : St} {H' : Hp} {v : V} {u : Value}, Inv (cxOf CX P w K mg base N qual scope f cdv A outer s H E) [] σ' H' s' → RelV v u → Q v H' → CE outer P w H s Q u s' :=
    fun {σ' H' v u} J rv q => ⟨v, H', J.os, J.bare, J.base, J.hok, rv, q⟩
  cases fl with
  | ret u =>
    obtain ⟨v, σ', H', J, rv, q⟩ := hs
    exact fin J rv q
  | next =>
    obtain ⟨σ', H', J, q⟩ := hs
    exact fin (v := V.non) (u := Value.none) J rfl q
  | brk =>
    obtain ⟨_, _, _, q⟩ := hs
    exact False.elim q
  | cont =>
    obtain ⟨_, _, _, q⟩ := hs
    exact False.elim q
end L2

namespace L2
open PySem PySem.Spec PyProof.Rows
section
variable {X : Cx} {x : Str} {p pos : Pos} {e : Expr} {es : List Expr} {t : TA} {id T : String} {r : List V → Hp → VK → Prop}

def tCB (r : List V → Hp → VK → Prop) (t : TA) : TE := fun σ H Q => t σ H fun vs H1 => r vs H1 Q
/-- f(e, ..), f a built-in function -/
theorem pe_callB (hc : CallR X (.builtin id) r) (hg : Gl X x) (hm : X.mg x = none) (hv : bootBuiltins x = some (.builtin id)) (ha : PA X (e :: es) t) (hn : x ≠ "__name__" := by decide) (hdb : (x == ("__debug__" : Str)) = false := by decide)
    (he : starEach (e :: es) X.env = (false, eval e X.env) :: starEach es X.env := by rfl) (hpl : (backTo pos (starEach es X.env)).any (·.1) = false := by rfl) : PE X (.Call (.Name x p) (e :: es) [] pos) (tCB r t) := by
  intro pins s σ H Q I h
  refine wpAny_Call_Name_kw (ld_blt I hg hm hv ?_ hn hdb)
  exact PyProof.Rows.callWith_builtin1 (thn (ha pos pins s σ H _ I h) fun us s1 ⟨vs, H1, I1, r1, q1⟩ => hc pins s1 σ H1 vs us Q I1 r1 q1) he hpl
/-- T(e, ..), T a built-in type -/
theorem pe_callTy (hc : CallR X (.type T) r) (hg : Gl X x) (hm : X.mg x = none) (hv : bootBuiltins x = some (.type T)) (ha : PA X (e :: es) t) (hn : x ≠ "__name__" := by decide) (hdb : (x == ("__debug__" : Str)) = false := by decide)
    (he : starEach (e :: es) X.env = (false, eval e X.env) :: starEach es X.env := by rfl) (hpl : (backTo pos (starEach es X.env)).any (·.1) = false := by rfl) : PE X (.Call (.Name x p) (e :: es) [] pos) (tCB r t) := by
  intro pins s σ H Q I h
  refine wpAny_Call_Name_kw (ld_blt I hg hm hv ?_ hn hdb)
  exact PyProof.Rows.callWith_type1 (thn (ha pos pins s σ H _ I h) fun us s1 ⟨vs, H1, I1, r1, q1⟩ => hc pins s1 σ H1 vs us Q I1 r1 q1) he hpl
end
end L2

namespace HT
open PySem PyProof.Rows

section
open PySem.SeqAt
open PySem.AutoSeq1 (wpAny_loadPart')
open PySem.MeetsSeq PySem.MeetsSeq2 PySem.MeetsSeq3

end

section
variable {prog : Program} {w : World} {A : Around} {E : Value → Shared → Prop} {s : Shared}

/-! ### t[a:b], not the whole -/
/-- a slice's bound as a place among n (d where it is left out) -/
def sIx (n d : Nat) : Option Int → Nat
  | none => d
  | some v => if v < 0 then (v + (n : Int)).toNat else min v.toNat n
theorem sIx_nat (n d k : Nat) : sIx n d (some (k : Int)) = min k n := by
  show (if (k : Int) < 0 then ((k : Int) + (n : Int)).toNat else min (k : Int).toNat n) = min k n
  rw [if_neg (by omega), Int.toNat_natCast]
end
end HT

namespace L2
open PySem PySem.Spec PyProof.Rows

/-! ### the parts of a slice -/
abbrev TO := St → Hp → (Option Int → Hp → Prop) → Prop
/-- a slice's part (left out, or an int) -/
def PO (X : Cx) (e : Option Expr) (t : TO) : Prop :=
  ∀ (pins : List (Addr × Obj)) (s : Shared) (σ : St) (H : Hp) (Q : Option Int → Hp → Prop), Inv X pins σ H s → t σ H Q →
    wpAny (model X.prog X.w) X.A (evalPart e X.env) (fun u s' => ∃ o H', Inv X pins σ H' s' ∧ IsPart u o ∧ Q o H') X.xe s
def tPart (t : TE) : TO := fun σ H Q => t σ H fun x H1 => ∃ i, x = .int i ∧ Q (some i) H1

section
variable {X : Cx} {e : Expr} {te : TE} {lo hi : Option Expr} {tl th : TO} {pos p2 : Pos}

theorem po_some (h : PE X e te) : PO X (some e) (tPart te) := by
  intro pins s σ H Q I hw
  rw [evalPart_some]
  refine thn (h pins s σ H _ I hw) fun u s1 ⟨x, H1, I1, r1, q1⟩ => ?_
  obtain ⟨i, rfl, q⟩ := q1
  obtain ⟨t, rfl⟩ := r1
  exact ⟨some i, H1, I1, .int i t, q⟩

/-- what a slice of a value is, by values: the slice object stands at sl -/
def SlR (X : Cx) (r : V → Option Int → Option Int → Hp → VK → Prop) : Prop :=
  ∀ (pins : List (Addr × Obj)) (s : Shared) (σ : St) (H : Hp) (x : V) (v vl vu : Value) (lo hi : Option Int) (sl : Addr) (Q : VK), Inv X pins σ H s → RelV x v → s.heap.IsSliceOf sl vl vu .none → IsPart vl lo → IsPart vu hi → r x lo hi H Q →
    ∃ T id, typeLookup (.type T) "__getitem__" = pure (some (.builtin id)) ∧ s.TypeIs v T ∧ wpAny (model X.prog X.w) X.A (getItem v (.ref sl)) (EP X pins σ Q) X.xe s
def tSl (r : V → Option Int → Option Int → Hp → VK → Prop) (te : TE) (tl th : TO) : TE := fun σ H Q => te σ H fun x H1 => tl σ H1 fun l H2 => th σ H2 fun u H3 => r x l u H3 Q
/-- a[lo:hi], any a -/
theorem pe_slice {r : V → Option Int → Option Int → Hp → VK → Prop} (hr : SlR X r) (he : PE X e te) (hl : PO X lo tl) (hu : PO X hi th) : PE X (.Subscript e (.Slice lo hi none p2) pos) (tSl r te tl th) := by
  intro pins s σ H Q I h
  refine Subscript_ (thn (he pins s σ H _ I h) fun v s1 ⟨x, H1, I1, r1, q1⟩ => ?_)
  refine wpAny_Slice (thn (hl pins s1 σ H1 _ I1 q1) fun vl s2 ⟨l, H2, I2, pl, q2⟩ => thn (hu pins s2 σ H2 _ I2 q2) fun vu s3 ⟨u, H3, I3, pu, q3⟩ => ?_)
  rw [evalPart_none]
  refine wpAny_pure ?_
  have I4 : Inv X pins σ H3 { s3 with heap := s3.heap.push { cls := .type "slice", data := .fields #[vl, vu, .none] } } := I3.kept (t' := s3.toks) fun b ob q => Heap.get?_push_of_some _ q
  obtain ⟨T, id, hT, ht, hg⟩ := hr pins { s3 with heap := s3.heap.push { cls := .type "slice", data := .fields #[vl, vu, .none] } } σ H3 x v vl vu l u s3.heap.objs.size Q I4 r1 (Heap.IsSliceOf.new ..) pl pu q3
  show wpAny (model X.prog X.w) X.A (subscriptTail e (.Slice lo hi none p2) v (.ref s3.heap.objs.size)) (EP X pins σ Q) X.xe { s3 with heap := s3.heap.push { cls := .type "slice", data := .fields #[vl, vu, .none] } }
  exact tail_any (ops := [.ref s3.heap.objs.size, v]) ht hT hg (by with_unfolding_all rfl)

/-- the items of xs[lo:hi] -/
def cutV (xs : List V) (lo hi : Option Int) : List V := (xs.drop (HT.sIx xs.length 0 lo)).take (HT.sIx xs.length xs.length hi - HT.sIx xs.length 0 lo)
theorem cutV_length (xs : List V) (lo hi : Option Int) : (cutV xs lo hi).length ≤ xs.length := by
  unfold cutV
  rw [List.length_take, List.length_drop]
  omega
/-! ### t < u, t + u -/
end
end L2

namespace L2
open PySem PySem.Spec PyProof.Rows

/-! ### places -/
/-- the place that an index of any sign means -/
def ixN (n : Nat) (i : Int) : Option Nat := if 0 ≤ i then (if i < n then some i.toNat else none) else if -(n : Int) ≤ i then some (i + n).toNat else none
def atI {α : Type} (xs : List α) (i : Int) : Option α := (ixN xs.length i).bind fun j => xs[j]?
theorem ixN_seq {n : Nat} {i : Int} {j : Nat} (h : ixN n i = some j) : seqIndex? i n = some j ∧ j < n ∧ -(n : Int) ≤ i ∧ i < n := by
  unfold ixN at h
  by_cases h0 : 0 ≤ i
  · rw [if_pos h0] at h
    by_cases h1 : i < n
    · rw [if_pos h1] at h
      have e : i.toNat = j := Option.some.inj h
      exact ⟨by rw [seqIndex_of h0 h1, e], by omega, by omega, h1⟩
    · rw [if_neg h1] at h; cases h
  · rw [if_neg h0] at h
    by_cases h1 : -(n : Int) ≤ i
    · rw [if_pos h1] at h
      have e : (i + n).toNat = j := Option.some.inj h
      exact ⟨by rw [seqIndex_neg (by omega) h1, e], by omega, h1, by omega⟩
    · rw [if_neg h1] at h; cases h
theorem atI_get {α : Type} {xs : List α} {i : Int} {v : α} (h : atI xs i = some v) : ∃ j, seqIndex? i xs.length = some j ∧ xs[j]? = some v ∧ j < xs.length ∧ -(xs.length : Int) ≤ i ∧ i < xs.length := by
  unfold atI at h
  cases e : ixN xs.length i with
  | none => rw [e] at h; cases h
  | some j =>
    rw [e] at h
    obtain ⟨h1, h2, h3, h4⟩ := ixN_seq e
    exact ⟨j, h1, h, h2, h3, h4⟩
theorem atI_nat {α : Type} {xs : List α} {j : Nat} {v : α} (h : xs[j]? = some v) : atI xs (j : Int) = some v := by
  have hj : j < xs.length := (List.getElem?_eq_some_iff.mp h).1
  have e : ixN xs.length (j : Int) = some j := by
    unfold ixN
    rw [if_pos (by omega), if_pos (by omega)]; simp
  unfold atI; rw [e]; exact h
/-! ### what may be subscripted -/
/-- what stands as an index of a plain subscript -/
def PlainIx (b : Expr) : Prop := ∀ o i, subscripted b false o i = operate [o, i] (getItem o i)
/-- a subscript by values -/
def IxR (X : Cx) (r : R2) : Prop :=
  ∀ (value slice : Expr) (pins : List (Addr × Obj)) (s : Shared) (σ : St) (H : Hp) (x y : V) (v u : Value) (Q : VK), Inv X pins σ H s → RelV x v → RelV y u → r x y H Q →
    subscripted slice false v u = operate [v, u] (getItem v u) → wpAny (model X.prog X.w) X.A (subscriptTail value slice v u) (EP X pins σ Q) X.xe s
/-- a call of a builtin's method by values: the receiver, the arguments -/
def MtR (X : Cx) (id : String) (r : V → List V → Hp → VK → Prop) : Prop :=
  ∀ (pins : List (Addr × Obj)) (s : Shared) (σ : St) (H : Hp) (x : V) (xs : List V) (v : Value) (us : List Value) (Q : VK), Inv X pins σ H s → RelV x v → Vals xs us → r x xs H Q →
    wpAny (model X.prog X.w) X.A (call (.builtin id) (v :: us)) (EP X pins σ Q) X.xe s
section
variable {X : Cx} {a b : Expr} {ta tb : TE} {pos : Pos}
/-- a[b] -/
theorem pe_ix {r : R2} (hr : IxR X r) (ha : PE X a ta) (hb : PE X b tb) (hs : PlainIx b) : PE X (.Subscript a b pos) (tOp r ta tb) := by
  intro pins s σ H Q I h
  exact Subscript_ (binT ha hb I h fun v u s2 x y H2 I2 rx ry q => hr a b pins s2 σ H2 x y v u Q I2 rx ry q (hs _ _))

def rIxL (K : PySem.W.Frag) : R2 := fun x y H Q => ∃ p xs i v, x = .ref p ∧ y = .int i ∧ SqL K H p xs ∧ atI xs i = some v ∧ Q v H
def rIxT (K : PySem.W.Frag) : R2 := fun x y H Q => ∃ p xs i v, x = .ref p ∧ y = .int i ∧ SqT K H p xs ∧ atI xs i = some v ∧ Q v H
theorem ix_list : IxR X (rIxL X.K) := by
  intro value slice pins s σ H x y v u Q I rx ry h hs
  obtain ⟨p, xs, i, z, rfl, rfl, hq, he, q⟩ := h
  cases rx
  obtain ⟨t, rfl⟩ := ry
  obtain ⟨its, r, pl, hz⟩ := I.list hq
  obtain ⟨j, h1, h2, h3, h4, h5⟩ := atI_get he
  obtain ⟨w, ew, rw'⟩ := r.get h2
  have hl := r.length
  have hn := line63
  have fin : EP X pins σ Q w s := ⟨z, H, I, rw', q⟩
  by_cases h0 : 0 ≤ i
  · have hj : i.toNat = j := by
      rw [seqIndex_of h0 h5] at h1
      exact Option.some.inj h1
    exact item_listR pl.isList h0 (by omega) (by rw [hj]; simpa using ew) fin hs
  · have hj : (i + (its.toArray.size : Int)).toNat = j := by
      rw [seqIndex_neg (by omega) h4] at h1
      rw [List.size_toArray, ← hl]
      exact Option.some.inj h1
    exact subscriptTail_builtinR (x := w) pl.isList.typeIs slot_list_getitem.lookup
      (wpAny_getItem_list_neg (Q := fun r s' => r = w ∧ EP X pins σ Q r s') pl.isList (by omega) (by rw [List.size_toArray] <;> omega) (by omega) (by rw [hj]; simpa using ew) ⟨rfl, fin⟩) hs
theorem ix_tup : IxR X (rIxT X.K) := by
  intro value slice pins s σ H x y v u Q I rx ry h hs
  obtain ⟨p, xs, i, z, rfl, rfl, hq, he, q⟩ := h
  cases rx
  obtain ⟨t, rfl⟩ := ry
  obtain ⟨its, r, pl, hz⟩ := I.tuple hq
  obtain ⟨j, h1, h2, h3, h4, h5⟩ := atI_get he
  obtain ⟨w, ew, rw'⟩ := r.get h2
  have hl := r.length
  have hn := line63
  have fin : EP X pins σ Q w s := ⟨z, H, I, rw', q⟩
  exact subscriptTail_builtinR (x := w) pl.typeIs slot_tuple_getitem.lookup
    (getItem_tuple (j := j) (Q := fun r s' => r = w ∧ EP X pins σ Q r s') pl (by omega) (by omega) (by rw [List.size_toArray, ← hl]; exact h1) (by simpa using ew) ⟨rfl, fin⟩) hs
/-! ### xs[i] = v, any sign -/
/-! ### slices -/
theorem slice_bounds (lo hi : Option Int) (n : Nat) : (sliceBounds lo hi none n).1 = ((HT.sIx n 0 lo : Nat) : Int) ∧ (sliceBounds lo hi none n).2.1 = ((HT.sIx n n hi : Nat) : Int) ∧ (sliceBounds lo hi none n).2.2 = 1 := by
  refine ⟨?_, ?_, rfl⟩
  · cases lo with
    | none => simp [sliceBounds, HT.sIx]
    | some i =>
      simp only [sliceBounds, HT.sIx, Option.getD_none, show (1 : Int) > 0 by decide, if_true]
      by_cases h : i < 0
      · simp only [h, if_true] <;> omega
      · simp only [h, if_false] <;> omega
  · cases hi with
    | none => simp [sliceBounds, HT.sIx]
    | some i =>
      simp only [sliceBounds, HT.sIx, Option.getD_none, show (1 : Int) > 0 by decide, if_true]
      by_cases h : i < 0
      · simp only [h, if_true] <;> omega
      · simp only [h, if_false] <;> omega
theorem slicePick_cut (its : List Value) (lo hi : Option Int) : slicePick its.toArray lo hi none = ((its.drop (HT.sIx its.length 0 lo)).take (HT.sIx its.length its.length hi - HT.sIx its.length 0 lo)).toArray := by
  obtain ⟨h1, h2, h3⟩ := slice_bounds lo hi its.toArray.size
  unfold slicePick
  rw [h1, h2, h3]
  simp only [sliceRange_one, pick_run, List.size_toArray] <;> rfl
/-- xs[lo:hi] of a list: a new list -/
def rSlL (K : PySem.W.Frag) : V → Option Int → Option Int → Hp → VK → Prop := fun x lo hi H Q => ∃ a xs, x = .ref a ∧ SqL K H a xs ∧ ∀ p, H p = none → Q (.ref p) (upd H p (.lst (cutV xs lo hi)))
theorem sl_list : SlR X (rSlL X.K) := by
  intro pins s σ H x v vl vu lo hi sl Q I rx hs pl pu h
  obtain ⟨a, xs, rfl, hx, q⟩ := h
  cases rx
  obtain ⟨its, r, ht, hz⟩ := I.list hx
  have hlen := r.length
  refine ⟨"list", _, slot_list_getitem.lookup, ht.isList.typeIs, ?_⟩
  refine wpAny_getItem_list_slice ht.isList hs pl pu .none (by simp) ?_ (by rw [List.size_toArray] <;> omega)
  rw [slicePick_cut, ← hlen]
  refine ⟨.ref s.heap.objs.size, _, I.laid (t' := s.toks) (o := .lst (cutV xs lo hi)) (fun b ob q => Heap.get?_push_of_some _ q) (Nat.le_refl _) ?_, rfl, q _ (I.hok.fresh (Nat.le_refl _))⟩
  exact ⟨Nat.le_trans (cutV_length xs lo hi) hz, _, 0, (r.drop (HT.sIx xs.length 0 lo)).take (HT.sIx xs.length xs.length hi - HT.sIx xs.length 0 lo), Heap.get?_push_size _ rfl⟩

/-! ### in, not in: flat items -/
/-! ### len, list(x), tuple(x) of any list or tuple that is read -/
theorem call_len_seq : CallR X (.builtin "len") (fun xs H Q => ∃ p ys, xs = [.ref p] ∧ (SqL X.K H p ys ∨ SqT X.K H p ys) ∧ Q (.int ys.length) H) := by
  intro pins s σ H xs us Q I r h
  obtain ⟨p, ys, rfl, hq, q⟩ := h
  obtain ⟨u, rfl, rx⟩ := vals1 r
  cases rx
  have hn := line63
  rcases hq with hq | hq
  · obtain ⟨its, r', pl, hz⟩ := I.list hq
    have hlen := r'.length
    exact Calls.call_len_list pl.isList (by simp only [List.size_toArray] <;> omega) ⟨.int ys.length, H, I.tok _, ⟨s.toks + 1, by rw [List.size_toArray, hlen]⟩, q⟩
  · obtain ⟨its, r', pl, hz⟩ := I.tuple hq
    have hlen := r'.length
    exact len_tuple pl (by simp only [List.size_toArray] <;> omega) ⟨.int ys.length, H, I.tok _, ⟨s.toks + 1, by rw [List.size_toArray, hlen]⟩, q⟩
/-! ### the call of a builtin's method: o.m(..) -/
/-- the value is of that builtin type -/
def tyV (K : PySem.W.Frag) (T : String) (x : V) (H : Hp) : Prop := match x with
  | .str _ => T = "str"
  | .int _ => T = "int"
  | .ref p => (T = "list" ∧ ∃ xs, SqL K H p xs) ∨ (T = "tuple" ∧ ∃ o, K.lookup p = some o ∧ o.cls = .type "tuple" ∧ o.dict = none) ∨
      (T = "dict" ∧ ((∃ kvs, H p = some (.dK kvs)) ∨ ∃ kvs, H p = some (.dT kvs))) ∨ (T = "set" ∧ ∃ S n, H p = some (.set S n))
  | _ => False
theorem tyV_is {pins : List (Addr × Obj)} {σ : St} {H : Hp} {s : Shared} {T : String} {x : V} {v : Value} (I : Inv X pins σ H s) (r : RelV x v) (ty : tyV X.K T x H) :
    s.TypeIs v T ∧ ∀ a, v = .ref a → ∃ ob, s.heap.get? a = some ob ∧ ob.dict = none := by
  cases x with
  | str z =>
    obtain ⟨t, rfl⟩ := r
    cases (show T = "str" from ty)
    exact ⟨typeIs_str s z t, fun _ e => nomatch e⟩
  | int i =>
    obtain ⟨t, rfl⟩ := r
    cases (show T = "int" from ty)
    exact ⟨typeIs_int s i t, fun _ e => nomatch e⟩
  | ref p =>
    cases r
    rcases ty with ⟨rfl, xs, hq⟩ | ⟨rfl, o, hk, hc, hd⟩ | ⟨rfl, hk⟩ | ⟨rfl, S, n, hk⟩
    · obtain ⟨its, _, pl, _⟩ := I.list hq
      refine ⟨pl.isList.typeIs, fun a e => ?_⟩
      cases e
      obtain ⟨o, n, e, c, hd, _⟩ := pl
      exact ⟨o, e, hd⟩
    · refine ⟨⟨o, I.kIn p o hk, hc⟩, fun a e => ?_⟩
      cases e
      exact ⟨o, I.kIn _ o hk, hd⟩
    · have z : ∃ o, s.heap.get? p = some o ∧ o.ExactDict := by
        rcases hk with ⟨kvs, hk⟩ | ⟨kvs, hk⟩
        · obtain ⟨_, _, _, _, o, _, _, e, ex, _⟩ := I.hok p _ hk
          exact ⟨o, e, ex⟩
        · obtain ⟨_, _, _, _, o, _, _, e, ex, _⟩ := I.hok p _ hk
          exact ⟨o, e, ex⟩
      obtain ⟨o, e, ex⟩ := z
      refine ⟨⟨o, e, ex.1⟩, fun a e2 => ?_⟩
      cases e2
      exact ⟨o, e, ex.2.1⟩
    · obtain ⟨o, _, _, _, e, ex, _⟩ := I.hok p _ hk
      refine ⟨⟨o, e, ex.1⟩, fun a e2 => ?_⟩
      cases e2
      exact ⟨o, e, ex.2.1⟩
  | _ => exact False.elim ty
def tBM0 (K : PySem.W.Frag) (T : String) (r : V → List V → Hp → VK → Prop) (to : TE) : TE := fun σ H Q => to σ H fun x H1 => tyV K T x H1 ∧ r x [] H1 Q
def tBM (K : PySem.W.Frag) (T : String) (r : V → List V → Hp → VK → Prop) (to : TE) (t : TA) : TE := fun σ H Q => to σ H fun x H1 => tyV K T x H1 ∧ t σ H1 fun xs H2 => r x xs H2 Q
variable {o e : Expr} {es : List Expr} {to : TE} {t : TA} {name : Str} {apos cpos : Pos} {T id : String} {r : V → List V → Hp → VK → Prop}
theorem pe_bm0 (pa : PlainAttrs T) (slot : Slot T name id) (hty : typeOf (.builtin id) = pure (.type "method_descriptor")) (hm : MtR X id r) (ho : PE X o to)
    (hbase : attributeBase o name X.env (eval o X.env) = eval o X.env := by rfl) (hline : (apos.endLine == cpos.line) = true := by rfl) : PE X (.Call (.Attribute o name apos) [] [] cpos) (tBM0 X.K T r to) := by
  intro pins s σ H Q I h
  refine wpAny_Call_method0_late hbase hline (thn (ho pins s σ H _ I h) fun v s1 ⟨x, H1, I1, r1, ty, q1⟩ => ?_)
  obtain ⟨h1, h2⟩ := tyV_is I1 r1 ty
  exact ⟨T, id, pa, slot, hty, h1, h2, Calls.callWith_builtin rfl (PySem.evalArgs_none (hm pins s1 σ H1 x [] v [] Q I1 r1 .nil q1))⟩
theorem pe_bm (pa : PlainAttrs T) (slot : Slot T name id) (hty : typeOf (.builtin id) = pure (.type "method_descriptor")) (hm : MtR X id r) (ho : PE X o to) (ha : PA X (e :: es) t)
    (hbase : attributeBase o name X.env (eval o X.env) = eval o X.env := by rfl)
    (hfew : ((backTo cpos (starEach (e :: es) X.env)).all (fun x => !x.1) && (backToKw cpos (keywordEach [] X.env)).all (fun x => x.1.isSome)
      && decide ((e :: es).length + ([] : List Keyword).length + (if ([] : List Keyword).isEmpty then 0 else 1) < 30)) = true := by rfl)
    (hline : (apos.endLine == cpos.line) = true := by rfl) (hs : starEach (e :: es) X.env = (false, eval e X.env) :: starEach es X.env := by rfl) (hplain : (backTo cpos (starEach es X.env)).any (·.1) = false := by rfl) :
    PE X (.Call (.Attribute o name apos) (e :: es) [] cpos) (tBM X.K T r to t) := by
  intro pins s σ H Q I h
  refine wpAny_Call_method_late hbase hfew hline rfl (thn (ho pins s σ H _ I h) fun v s1 ⟨x, H1, I1, r1, ty, q1⟩ => ?_)
  obtain ⟨h1, h2⟩ := tyV_is I1 r1 ty
  refine ⟨T, id, pa, slot, hty, h1, h2, ?_⟩
  have hA := ha cpos pins s1 σ H1 _ I1 q1
  rw [hs] at hA ⊢
  refine Calls.callWith_builtin (by show (false || (backTo cpos (starEach es X.env)).any (·.1)) = false; rw [hplain] <;> rfl) (Calls.evalArgs_plain ?_)
  exact thn hA fun us s2 ⟨vs, H2, I2, r2, q2⟩ => hm pins s2 σ H2 x vs v us Q I2 r1 r2 q2
/- xs.append(e), list.index on a module's tuple .. are MtR facts of 06m -/
end
end L2

namespace L2
open PySem PySem.Spec PyProof.Rows

def MtM (X : Cx) (id : String) (r : V → List V → Hp → VK → Prop) : Prop :=
  ∀ (pins : List (Addr × Obj)) (s : Shared) (σ : St) (H : Hp) (x : V) (xs : List V) (v : Value) (us : List Value) (Q : VK), Inv X pins σ H s → RelV x v → Vals xs us → r x xs H Q →
    wpAny (model X.prog X.w) X.A (call (.builtin id) (v :: us)) (EP X pins σ Q) X.xe s

/-! ### lists of values -/
theorem Vals.one : ∀ {x : V} {us : List Value}, Vals [x] us → ∃ u, us = [u] ∧ RelV x u
  | _, _, .cons r .nil => ⟨_, rfl, r⟩
theorem Vals.zero : ∀ {us : List Value}, Vals [] us → us = []
  | _, .nil => rfl
theorem Vals.dropLast {xs : List V} {us : List Value} (h : Vals xs us) : Vals xs.dropLast us.dropLast := by
  induction h with
  | nil => exact .nil
  | cons r t ih =>
    cases t with
    | nil => exact .nil
    | cons q t' => exact .cons r ih
theorem erase_last {α : Type} (l : List α) : l.eraseIdx (l.length - 1) = l.dropLast := by
  induction l with
  | nil => rfl
  | cons a r ih =>
    cases r with
    | nil => rfl
    | cons b r =>
      have e : (a :: b :: r).length - 1 = ((b :: r).length - 1) + 1 := by
        have h1 : (a :: b :: r).length = r.length + 2 := rfl
        have h2 : (b :: r).length = r.length + 1 := rfl
        omega
      rw [e, List.eraseIdx_cons_succ, ih]
      all_goals rfl
section
variable {X : Cx} {pins : List (Addr × Obj)} {σ : St} {H : Hp} {s : Shared} {l b : Addr} {xs ys zs : List V}

/-! ### the two steps: a tracked list is rewritten, a new list is laid -/
theorem Inv.lset {its its' : List Value} {n : Nat} {f : Array Value → Array Value} {t' : Nat} (I : Inv X pins σ H s) (hH : H l = some (.lst xs))
    (e : s.heap.get? l = some { cls := .type "list", data := .seq its.toArray n }) (hf : f its.toArray = its'.toArray) (hv : Vals ys its') (hz : ys.length ≤ sizeLine) :
    Inv X pins σ (upd H l (.lst ys)) { s with heap := s.heap.update l (Obj.mapSeq f), toks := t' } := by
  have q := PySem.IsL.update e f
  rw [hf] at q
  refine I.write (x := l) (e := l) (by rw [hH]; exact trivial) (.inl rfl) (fun b' u hb hu => (Heap.get?_update_other s.heap (Obj.mapSeq f) (Ne.symm hb)).trans hu) ⟨_, q⟩ ?_
  exact ⟨hz, its', _, hv, q⟩
theorem Inv.lnew {its : List Value} {t' : Nat} (I : Inv X pins σ H s) (hv : Vals ys its) (hz : ys.length ≤ sizeLine) :
    Inv X pins σ (upd H s.heap.objs.size (.lst ys)) { s with heap := s.heap.push { cls := .type "list", data := .seq its.toArray }, toks := t' } :=
  I.laid (fun _ _ q => Heap.get?_push_of_some _ q) (Nat.le_refl _) ⟨hz, its, 0, hv, Heap.get?_push_size _ rfl⟩
theorem Inv.fresh (I : Inv X pins σ H s) : H s.heap.objs.size = none := I.hok.fresh (Nat.le_refl _)
theorem Inv.lstM (I : Inv X pins σ H s) (hH : H l = some (.lst xs)) : xs.length ≤ sizeLine ∧ ∃ (its : List Value) (n : Nat), Vals xs its ∧ xs.length = its.length ∧ s.heap.get? l = some { cls := .type "list", data := .seq its.toArray n } := by
  obtain ⟨z, its, n, r, e⟩ := I.hok l _ hH
  exact ⟨z, its, n, r, r.length, e⟩

theorem notLongL {n : Nat} (h : n ≤ sizeLine) : Builtin.List.listTooLong n = false := by
  unfold Builtin.List.listTooLong
  exact decide_eq_false (by omega)
end

section
variable {X : Cx}

/-! ### methods -/
def rAppend : V → List V → Hp → VK → Prop := fun x vs H Q => ∃ l xs y, x = .ref l ∧ vs = [y] ∧ H l = some (.lst xs) ∧ xs.length < sizeLine ∧ Q .non (upd H l (.lst (xs ++ [y])))
theorem mt_append : MtM X "list.append" rAppend := by
  intro pins s σ H x vs v us Q I rx rv h
  obtain ⟨l, xs, y, rfl, rfl, hH, hz, q⟩ := h
  cases rx
  obtain ⟨u, rfl, ru⟩ := rv.one
  obtain ⟨z, its, n, r, hl, e⟩ := I.lstM hH
  refine call_meets F.slot_list_append ⟨_, e, rfl⟩ F.entry_list_append (F.args_list_append_2 _ _) (PySem.list_append l its.toArray n u (by rw [List.size_toArray]; omega)) ⟨e, ?_⟩
  refine ⟨.non, _, I.lset (its' := its ++ [u]) hH e (by simp) (r.append (.cons ru .nil)) ?_, rfl, q⟩
  rw [List.length_append, List.length_singleton]
  omega

def rExtend : V → List V → Hp → VK → Prop := fun x vs H Q => ∃ l b xs zs, x = .ref l ∧ vs = [.ref b] ∧ H l = some (.lst xs) ∧ H b = some (.lst zs) ∧ xs.length + zs.length ≤ sizeLine ∧ Q .non (upd H l (.lst (xs ++ zs)))
theorem mt_extend : MtM X "list.extend" rExtend := by
  intro pins s σ H x vs v us Q I rx rv h
  obtain ⟨l, b, xs, zs, rfl, rfl, hH, hB, hz, q⟩ := h
  cases rx
  obtain ⟨u, rfl, ru⟩ := rv.one
  cases ru
  obtain ⟨z, its, n, r, hl, e⟩ := I.lstM hH
  obtain ⟨z2, its2, n2, r2, hl2, e2⟩ := I.lstM hB
  have hsz : its.toArray.size + its2.toArray.size ≤ sizeLine := by rw [List.size_toArray, List.size_toArray]; omega
  have hlong : ¬ (!its.toArray.isEmpty && Builtin.List.listTooLong (its.toArray.size + its2.toArray.size)) = true := by
    rw [notLongL hsz, Bool.and_false]
    exact Bool.false_ne_true
  refine call_meets F.slot_list_extend ⟨_, e, rfl⟩ F.entry_list_extend (F.args_list_extend_2 _ _)
    (AutoSeq1.list_extend_list_list_0 l its.toArray n b its2.toArray n2 hlong (by rw [List.size_toArray]; omega) (by omega)) ⟨e, e2, ?_⟩
  refine ⟨.non, _, I.lset (its' := its ++ its2) hH e (by simp) (r.append r2) ?_, rfl, q⟩
  rw [List.length_append]
  omega

def rPop : V → List V → Hp → VK → Prop := fun x vs H Q => ∃ l xs y, x = .ref l ∧ vs = [] ∧ H l = some (.lst xs) ∧ xs[xs.length - 1]? = some y ∧ Q y (upd H l (.lst xs.dropLast))
theorem mt_pop : MtM X "list.pop" rPop := by
  intro pins s σ H x vs v us Q I rx rv h
  obtain ⟨l, xs, y, rfl, rfl, hH, hy, q⟩ := h
  cases rx
  have hus := rv.zero
  subst hus
  obtain ⟨z, its, n, r, hl, e⟩ := I.lstM hH
  obtain ⟨u, hu, ru⟩ := r.get hy
  have hy' : its.toArray[its.toArray.size - 1]? = some u := by
    show its.toArray[its.length - 1]? = some u
    rw [← Array.getElem?_toList, ← hl]
    exact hu
  refine call_meets F.slot_list_pop ⟨_, e, rfl⟩ F.entry_list_pop (F.args_list_pop_1 _) (MeetsSeq.list_pop_last l its.toArray n u hy' (by rw [List.size_toArray]; omega)) ⟨e, ?_⟩
  refine ⟨y, _, I.lset (its' := its.dropLast) hH e ?_ r.dropLast ?_, ru, q⟩
  · show its.toArray.eraseIdxIfInBounds (its.toArray.size - 1) = its.dropLast.toArray
    rw [List.size_toArray, List.eraseIdxIfInBounds_toArray, erase_last]
  · rw [List.length_dropLast]
    omega

/-! ### list + list, list += list, list * int -/
def rCat : R2 := fun x y H Q => ∃ l b xs zs, x = .ref l ∧ y = .ref b ∧ H l = some (.lst xs) ∧ H b = some (.lst zs) ∧ xs.length + zs.length ≤ sizeLine ∧ ∀ p, H p = none → Q (.ref p) (upd H p (.lst (xs ++ zs)))
theorem op_cat : OpR X (binaryOp .Add) rCat := by
  intro pins s σ H x y v u Q I rx ry h
  obtain ⟨l, b, xs, zs, rfl, rfl, hH, hB, hz, q⟩ := h
  cases rx
  cases ry
  obtain ⟨z, its, n, r, hl, e⟩ := I.lstM hH
  obtain ⟨z2, its2, n2, r2, hl2, e2⟩ := I.lstM hB
  refine PySem.P.add_list e e2 ?_ (by rw [List.size_toArray, List.size_toArray]; omega)
  have ea : its.toArray ++ its2.toArray = (its ++ its2).toArray := by simp
  rw [ea]
  exact ⟨.ref _, _, I.lnew (t' := s.toks) (r.append r2) (by rw [List.length_append]; omega), rfl, q _ I.fresh⟩
/-! ### del xs[i] -/
end

/-! ### xs[a:b] = ys -/
section
variable {prog : Program} {w : World} {A : Around} {E : Value → Shared → Prop} {s : Shared}
end

section
variable {X : Cx}
end
end L2

namespace L2
open PySem PySem.Spec PyProof.Rows

theorem Vals.ints : ∀ {ns : List Int} {us : List Value}, Vals (ns.map V.int) us → IntsAre us ns
  | [], us, h => by
    rw [List.map_nil] at h
    cases h
    exact IntsAre.nil
  | n :: ns, us, h => by
    rw [List.map_cons] at h
    cases h with
    | cons r t =>
      obtain ⟨k, rfl⟩ := r
      exact IntsAre.cons n k (Vals.ints t)
theorem vals_of_ints : ∀ {us : List Value} {ns : List Int}, IntsAre us ns → Vals (ns.map V.int) us
  | _, _, .nil => by rw [List.map_nil]; exact Paired.nil
  | _, _, .cons n t h => by rw [List.map_cons]; exact Paired.cons (show RelV (V.int n) (Value.int n t) from ⟨t, rfl⟩) (vals_of_ints h)
theorem Vals.bls : ∀ {bs : List Bool} {us : List Value}, Vals (bs.map V.bl) us → us = bs.map Value.bool
  | [], us, h => by
    rw [List.map_nil] at h
    cases h
    rfl
  | b :: bs, us, h => by
    rw [List.map_cons] at h
    cases h with
    | cons r t =>
      cases r
      rw [Vals.bls t, List.map_cons]
theorem Vals.ref1 {a : Addr} {us : List Value} (r : Vals [V.ref a] us) : us = [Value.ref a] := by
  cases r with
  | cons r t =>
    cases t
    cases r
    rfl
/-! ### the library's walks over a list of ints, kept objects alone -/
section
variable {prog : Program} {w : World} {A : Around} {E : Value → Shared → Prop} {s : Shared} {l : Addr} {its : List Value} {ns : List Int} {Q : Value → Shared → Prop}
theorem sum_raw (hh : A.handled = none) (hl : s.heap.IsList l its.toArray) (hi : IntsAre its ns)
    (h : ∀ h' tk t', (∀ b o, s.heap.get? b = some o → h'.get? b = some o) → Q (.int ns.sum t') { s with heap := h', toks := tk }) : wpAny (model prog w) A (call (.builtin "sum") [.ref l]) Q E s := by
  obtain ⟨xs, e⟩ := hi.allInts.items
  have hn : numsOf (intItems xs).toList = ns := by rw [← e]; exact hi.numsOf
  rw [nums_intItems] at hn
  rw [e] at hl
  refine PySem.sum_intListG hh hl fun h' tk t' hk => ?_
  have := h h' tk t' hk
  rw [preSum_eq, List.take_of_length_le (by simp), hn]; exact this
end

/-! ### the calls, by values (CallR of 03t; MtR of 06l) -/
section
variable {X : Cx}
/-- sum(xs) of a list of ints -/
def rSum (K : PySem.W.Frag) : List V → Hp → VK → Prop := fun vs H Q => ∃ (a : Addr) (ns : List Int), vs = [V.ref a] ∧ SqL K H a (ns.map V.int) ∧ Q (.int ns.sum) H
theorem cr_sum (hc : X.calm = true) : CallR X (.builtin "sum") (rSum X.K) := by
  intro pins s σ H vs us Q I r h
  obtain ⟨a, ns, rfl, hs, q⟩ := h
  obtain ⟨its, rv, hl, _⟩ := I.list hs
  rw [Vals.ref1 r]
  exact sum_raw (I.ok.hd hc) hl.isList rv.ints fun h' tk t' hk => ⟨.int _, H, I.kept hk, ⟨_, rfl⟩, q⟩
/-! sorted, sort (fewer than 64 items: the library's own bound) -/
theorem small64 {n : Nat} (h : n < 64) : n ≤ sizeLine := by rw [sizeLine_eq]; omega
end

/-! ### list.index, flat items -/
section
variable {X : Cx}
end

/-! ### type(x) of an own instance; is, is not of a module's class -/
section
variable {X : Cx}
end

/-! ### any(xs), all(xs) of a list of bools -/
theorem iter_any {prog : Program} {w : World} {A : Around} {E : Value → Shared → Prop} {s : Shared} {l : Addr} {items : Array Value} {Q : Value → Shared → Prop} (hl : s.heap.IsList l items)
    (h : ∀ s₂ : Shared, s₂ = { s with heap := s.heap.push { cls := .type "list_iterator", data := .fields #[.ref l, .int 0 0] } } →
      (s₂.heap.IsListIter s.heap.objs.size l 0 ∧ s₂.heap.IsList l items) → l ≠ s.heap.objs.size → Q (.ref s.heap.objs.size) s₂) : wpAny (model prog w) A (pyIter (.ref l)) Q E s := by
  have hlt : l < s.heap.objs.size := by obtain ⟨_, e, _⟩ := hl; exact Heap.lt_size e
  exact wpAny_pyIter_list hl (h _ rfl ⟨⟨_, Heap.get?_push_size _ rfl, rfl, rfl⟩, hl.push _⟩ (Nat.ne_of_lt hlt))
theorem truth_bools {prog : Program} {w : World} {A : Around} {bs : List Bool} {its : List Value} (e : its = bs.map Value.bool) :
    TruthOf prog w A (fun i v => its.toArray[i]? = some v) (fun i => bs.getD i false) := fun i v s Q E hv hq => by
  have hv' : its[i]? = some v := by simpa using hv
  rw [e, List.getElem?_map] at hv'
  obtain ⟨b, hb, rfl⟩ := Option.map_eq_some_iff.mp hv'
  have hg : bs.getD i false = b := by rw [List.getD_eq_getElem?_getD, hb] <;> rfl
  have hq' : Q (bs.getD i false) s := hq
  rw [hg] at hq'
  exact wpAny_truthy_bool hq'
theorem any_range : ∀ bs : List Bool, (List.range bs.length).any (fun i => bs.getD i false) = bs.any id
  | [] => rfl
  | b :: bs => by
    rw [List.length_cons, List.range_succ_eq_map, List.any_cons, List.any_map, List.any_cons, ← any_range bs]
    all_goals rfl
section
variable {X : Cx}
def rAny (K : PySem.W.Frag) : List V → Hp → VK → Prop := fun vs H Q => ∃ (a : Addr) (bs : List Bool), vs = [V.ref a] ∧ SqL K H a (bs.map V.bl) ∧ Q (.bl (bs.any id)) H
theorem cr_any (hc : X.calm = true) : CallR X (.builtin "any") (rAny X.K) := by
  intro pins s σ H vs us Q I r h
  obtain ⟨a, bs, rfl, hs, q⟩ := h
  obtain ⟨its, rv, hl, _⟩ := I.list hs
  rw [Vals.ref1 r]
  have hb := rv.bls
  refine call_any_walk (iter_any hl.isList fun s₂ e2 st hne => ?_)
  subst e2
  refine ⟨_, _, _, _, _, _, _, rfl, Walks.list (A := X.A.in1) (I.ok.hd hc) _ a hne its.toArray, st, truth_bools hb, fun h' tk hk => ?_⟩
  refine ⟨.bl _, H, I.kept fun b o eo => hk b o (fun hmem => ?_) (Heap.get?_push_of_some _ eo), ?_, q⟩
  · rcases List.mem_cons.mp hmem with e1 | hmem
    · exact absurd (e1 ▸ Heap.lt_size eo) (Nat.lt_irrefl _)
    · cases hmem
  · show Value.bool _ = Value.bool _
    rw [← any_range, hb, List.size_toArray, List.length_map]
end

/-! ### == and != of data at any depth: none, bools, ints, texts, lists, tuples -/
mutual
inductive Dp (K : PySem.W.Frag) (H : Hp) : V → PyData → Prop
  | non : Dp K H .non .none
  | bl (b : Bool) : Dp K H (.bl b) (.bool b)
  | int (i : Int) : Dp K H (.int i) (.int i)
  | str (x : Str) : Dp K H (.str x) (.str x)
  | lst {a : Addr} {xs : List V} {ds : List PyData} : SqL K H a xs → DpAll K H xs ds → Dp K H (.ref a) (.list ds)
  | tup {a : Addr} {xs : List V} {ds : List PyData} : SqT K H a xs → DpAll K H xs ds → Dp K H (.ref a) (.tuple ds)
inductive DpAll (K : PySem.W.Frag) (H : Hp) : List V → List PyData → Prop
  | nil : DpAll K H [] []
  | cons {v : V} {vs : List V} {d : PyData} {ds : List PyData} : Dp K H v d → DpAll K H vs ds → DpAll K H (v :: vs) (d :: ds)
end
section
variable {X : Cx} {pins : List (Addr × Obj)} {σ : St} {H : Hp} {s : Shared}
end
section
variable {X : Cx}
end
end L2

namespace L2
open PySem PySem.Spec PyProof.Rows
abbrev CellAt (h : Heap) (c : Addr) (v : Option Value) : Prop := h.IsCell c v
def relS (scope sc : Scope) : Scope :=
  { scope with names := scope.names.map fun (n, k) => if (k == .free && sc.kind == .function && sc.names.lookup n == some .cell) then (n, .cell) else (n, k) }

def cloFrom (cells : List (Str × Addr)) : List (Str × NameKind) → List (Str × Addr) → List (Str × Addr)
  | [], acc => acc
  | (n, k) :: r, acc => if k == .free then cloFrom cells r ((n, (cells.lookup n).getD 0) :: acc) else cloFrom cells r acc

theorem closure_loop (env : Env) (f : Str × NameKind → List (Str × Addr) → Sem (ForInStep (List (Str × Addr))))
    (hf : ∀ n k c, f (n, k) c = if k == .free then (do let a ← cellOf env n; pure (.yield ((n, a) :: c))) else pure (.yield c)) :
    ∀ (names : List (Str × NameKind)) (acc : List (Str × Addr)), (∀ y ∈ names, y.2 = .free → ∃ c, env.cells.lookup y.1 = some c) → forIn names acc f = pure (cloFrom env.cells names acc)
  | [], acc, _ => by rw [List.forIn_nil]; rfl
  | (n, k) :: r, acc, h => by
    rw [List.forIn_cons, hf]
    have ih := fun acc => closure_loop env f hf r acc fun y hy => h y (List.mem_cons_of_mem _ hy)
    unfold cloFrom
    by_cases hk : (k == NameKind.free) = true
    · rw [if_pos hk, if_pos hk]
      obtain ⟨c, hc⟩ := h (n, k) List.mem_cons_self (by simpa using hk)
      have e : cellOf env n = pure c := by unfold cellOf; rw [hc]
      rw [e]
      have e2 : (env.cells.lookup n).getD 0 = c := by rw [hc]; rfl
      rw [e2]
      exact ih _
    · rw [if_neg hk, if_neg hk]
      exact ih _
theorem closure_ok {scope : Scope} {env : Env} (h : ∀ y ∈ scope.names, y.2 = .free → ∃ c, env.cells.lookup y.1 = some c) : closureFor scope env = pure (cloFrom env.cells scope.names []) := by
  simp only [closureFor]
  rw [closure_loop env _ (fun n k c => rfl) scope.names [] h]
  rfl

theorem mem_lookup {α : Type} : ∀ {l : List (Str × α)} {n : Str} {c : α}, (n, c) ∈ l → ∃ c', l.lookup n = some c'
  | (k, v) :: r, n, c, h => by
    rw [List.lookup_cons]
    cases hb : n == k with
    | true => exact ⟨_, rfl⟩
    | false =>
      rcases List.mem_cons.mp h with e | h
      · cases e; simp at hb
      · exact mem_lookup h

theorem cloFrom_mem {cells : List (Str × Addr)} : ∀ {names : List (Str × NameKind)} {acc : List (Str × Addr)} {n : Str} {c : Addr}, (n, c) ∈ cloFrom cells names acc → (n, c) ∈ acc ∨ ((n, .free) ∈ names ∧ c = (cells.lookup n).getD 0)
  | [], _, _, _, h => .inl h
  | (m, k) :: r, acc, n, c, h => by
    unfold cloFrom at h
    split at h
    · rename_i hk
      have hk : k = .free := by simpa using hk
      rcases cloFrom_mem h with h | ⟨h1, h2⟩
      · rcases List.mem_cons.mp h with e | h
        · cases e; exact .inr ⟨hk ▸ List.mem_cons_self, rfl⟩
        · exact .inl h
      · exact .inr ⟨List.mem_cons_of_mem _ h1, h2⟩
    · rcases cloFrom_mem h with h | ⟨h1, h2⟩
      · exact .inl h
      · exact .inr ⟨List.mem_cons_of_mem _ h1, h2⟩
theorem cloFrom_acc {cells : List (Str × Addr)} : ∀ {names : List (Str × NameKind)} {acc : List (Str × Addr)} {p : Str × Addr}, p ∈ acc → p ∈ cloFrom cells names acc
  | [], _, _, h => h
  | (m, k) :: r, acc, p, h => by
    unfold cloFrom
    split
    · exact cloFrom_acc (List.mem_cons_of_mem _ h)
    · exact cloFrom_acc h
theorem cloFrom_has {cells : List (Str × Addr)} : ∀ {names : List (Str × NameKind)} {acc : List (Str × Addr)} {n : Str}, (n, .free) ∈ names → (n, (cells.lookup n).getD 0) ∈ cloFrom cells names acc
  | (m, k) :: r, acc, n, h => by
    unfold cloFrom
    rcases List.mem_cons.mp h with e | h
    · cases e
      exact cloFrom_acc List.mem_cons_self
    · split
      · exact cloFrom_has h
      · exact cloFrom_has h

theorem cells_mem : ∀ {names : List (Str × NameKind)} {h : Heap} {acc : List (Str × Addr)} {x : Str} {c : Addr}, (x, c) ∈ cellsFrom h.objs.size names acc →
    (x, c) ∈ acc ∨ ((x, .cell) ∈ names ∧ h.objs.size ≤ c ∧ CellAt (pushCells h names) c none)
  | [], _, _, _, _, h => .inl h
  | (n, k) :: r, h, acc, x, c, hm => by
    unfold cellsFrom at hm
    unfold pushCells
    split at hm
    · rename_i hk
      rw [if_pos hk]
      have hk : k = .cell := by simpa using hk
      rw [← Heap.size_push h { cls := .type "cell", data := .cell none }] at hm
      rcases cells_mem hm with hm | ⟨h1, h2, h3⟩
      · rcases List.mem_cons.mp hm with e | hm
        · cases e
          exact .inr ⟨hk ▸ List.mem_cons_self, Nat.le_refl _, _, pushCells_keeps r _ _ _ (Heap.get?_push_size _ rfl), rfl⟩
        · exact .inl hm
      · rw [Heap.size_push] at h2
        exact .inr ⟨List.mem_cons_of_mem _ h1, Nat.le_of_succ_le h2, h3⟩
    · rename_i hk
      rw [if_neg hk]
      rcases cells_mem hm with hm | ⟨h1, h2, h3⟩
      · exact .inl hm
      · exact .inr ⟨List.mem_cons_of_mem _ h1, h2, h3⟩
theorem cells_acc : ∀ {names : List (Str × NameKind)} {n : Nat} {acc : List (Str × Addr)} {p : Str × Addr}, p ∈ acc → p ∈ cellsFrom n names acc
  | [], _, _, _, h => h
  | (m, k) :: r, n, acc, p, h => by
    unfold cellsFrom
    split
    · exact cells_acc (List.mem_cons_of_mem _ h)
    · exact cells_acc h
theorem cells_has : ∀ {names : List (Str × NameKind)} {n : Nat} {acc : List (Str × Addr)} {x : Str}, (x, .cell) ∈ names → ∃ c, (x, c) ∈ cellsFrom n names acc
  | (m, k) :: r, n, acc, x, h => by
    unfold cellsFrom
    rcases List.mem_cons.mp h with e | h
    · cases e
      exact ⟨n, cells_acc List.mem_cons_self⟩
    · split
      · exact cells_has h
      · exact cells_has h
theorem cells_inj : ∀ {names : List (Str × NameKind)} {h : Heap} {acc : List (Str × Addr)} {x y : Str} {c : Addr}, (∀ p ∈ acc, p.2 < h.objs.size) → (∀ x y c, (x, c) ∈ acc → (y, c) ∈ acc → x = y) →
    (x, c) ∈ cellsFrom h.objs.size names acc → (y, c) ∈ cellsFrom h.objs.size names acc → x = y
  | [], _, _, _, _, _, _, hi, h1, h2 => hi _ _ _ h1 h2
  | (n, k) :: r, h, acc, x, y, c, hl, hi, h1, h2 => by
    unfold cellsFrom at h1 h2
    split at h1
    · rename_i hk
      rw [if_pos hk] at h2
      rw [← Heap.size_push h { cls := .type "cell", data := .cell none }] at h1 h2
      refine cells_inj (h := h.push _) (fun p hp => ?_) (fun x y c a b => ?_) h1 h2
      · rw [Heap.size_push]
        rcases List.mem_cons.mp hp with rfl | hp
        · exact Nat.lt_succ_self _
        · exact Nat.lt_succ_of_lt (hl p hp)
      · rcases List.mem_cons.mp a with e | a <;> rcases List.mem_cons.mp b with e' | b
        · cases e; cases e'; rfl
        · cases e; exact absurd (hl _ b) (Nat.lt_irrefl _)
        · cases e'; exact absurd (hl _ a) (Nat.lt_irrefl _)
        · exact hi _ _ _ a b
    · rename_i hk
      rw [if_neg hk] at h2
      exact cells_inj hl hi h1 h2

theorem newEnv_comp {M : Model} {A : Around} {E : Value → Shared → Prop} {s : Shared} {scope : Scope} {globals : Addr} {closure : List (Str × Addr)} {qual : Str} {func : Option Addr} {code : Value} {around : Env} {builtins : Addr} {Q : Env → Shared → Prop}
    (h : Q (newEnv scope s.heap.objs.size globals (cellsFrom (s.heap.objs.size + 1) scope.names closure) qual func code (some around) builtins)
      { s with heap := pushCells (s.heap.push { cls := .type "dict", data := .dict #[] }) scope.names }) :
    wpAny M A (newFunctionEnv scope globals closure [] qual func code (some around) builtins) Q E s := by
  simp only [newFunctionEnv, Option.isSome_some, if_true]
  refine wpAny_bind (wpAny_alloc ?_)
  refine wpAny_bind (wpAny_layCells _ (fun n k c => rfl) scope.names closure _ _ ?_)
  rw [show ({ s with heap := s.heap.push { cls := .type "dict", data := .dict #[] } } : Shared).heap.objs.size = s.heap.objs.size + 1 from Heap.size_push ..]
  rw [List.forIn_nil]
  exact wpAny_bind (wpAny_pure (wpAny_pure h))

/-- every name of the written scope, in the scope that runs -/
theorem lookup_relS {sc : Scope} : ∀ {names : List (Str × NameKind)} {x : Str} {k : NameKind},
    (names.map fun (n, k) => if (k == NameKind.free && sc.kind == .function && sc.names.lookup n == some .cell) then (n, NameKind.cell) else (n, k)).lookup x = some k →
    ∃ k', names.lookup x = some k' ∧ (k = k' ∨ (k' = .free ∧ k = .cell))
  | [], _, _, h => by simp at h
  | (n, k₀) :: r, x, k, h => by
    have ih := @lookup_relS sc r x k
    have h' : List.lookup x ((if (k₀ == NameKind.free && sc.kind == .function && sc.names.lookup n == some .cell) = true then (n, NameKind.cell) else (n, k₀)) :: (r.map _)) = some k := h
    cases hx : x == n with
    | true =>
      simp only [List.lookup_cons, hx]
      by_cases hc : (k₀ == NameKind.free && sc.kind == .function && sc.names.lookup n == some .cell) = true
      · rw [if_pos hc] at h'
        simp only [List.lookup_cons, hx] at h'
        cases h'
        simp only [Bool.and_eq_true, beq_iff_eq] at hc
        exact ⟨k₀, rfl, .inr ⟨hc.1.1, rfl⟩⟩
      · rw [if_neg hc] at h'
        simp only [List.lookup_cons, hx] at h'
        cases h'
        exact ⟨_, rfl, .inl rfl⟩
    | false =>
      simp only [List.lookup_cons, hx]
      by_cases hc : (k₀ == NameKind.free && sc.kind == .function && sc.names.lookup n == some .cell) = true
      · rw [if_pos hc] at h'
        simp only [List.lookup_cons, hx] at h'
        exact ih h'
      · rw [if_neg hc] at h'
        simp only [List.lookup_cons, hx] at h'
        exact ih h'
/-- the names of a comprehension's block: its own (with their places in N), or captured -/
structure BlkOk (N : List Str) (sc scope : Scope) (own : List (Str × Nat)) : Prop where
  kind : scope.kind = .function
  uniq : ∀ y ∈ scope.names, scope.names.lookup y.1 = some y.2
  ix : ∀ p ∈ own, N[p.2]? = some p.1
  free : ∀ y ∈ scope.names, y.2 = .free → sc.names.lookup y.1 = some .cell ∨ sc.names.lookup y.1 = some .free
  own : ∀ y ∈ scope.names, y.2 = .local ∨ y.2 = .cell → y.1 ∈ own.map (·.1) ∨ y.1 ∉ N
/-- the slots of the block's own names forgotten -/
def wipe (σ : St) : List Nat → St
  | [] => σ
  | v :: vs => (wipe σ vs).set v none
theorem wipe_length (σ : St) : ∀ vs : List Nat, (wipe σ vs).length = σ.length
  | [] => rfl
  | v :: vs => by unfold wipe; rw [List.length_set, wipe_length σ vs]
theorem wipe_some {σ : St} {i : Nat} {x : V} : ∀ {vs : List Nat}, (wipe σ vs)[i]? = some (some x) → σ[i]? = some (some x) ∧ i ∉ vs
  | [], h => ⟨h, by simp⟩
  | v :: vs, h => by
    unfold wipe at h
    by_cases hi : v = i
    · subst hi
      by_cases hv : v < (wipe σ vs).length
      · rw [List.getElem?_set_self hv] at h; cases h
      · rw [List.getElem?_eq_none (by simpa using hv)] at h; cases h
    · rw [List.getElem?_set_ne hi] at h
      obtain ⟨h1, h2⟩ := wipe_some h
      exact ⟨h1, by simp only [List.mem_cons, not_or]; exact ⟨fun e => hi e.symm, h2⟩⟩

/-- the context of a block that starts at s, its iterator's objects at fp -/
abbrev Cx.blk (X : Cx) (s : Shared) (H : Hp) (scope : Scope) (cenv : Env) (fp : List Addr) : Cx := { X with s_0 := s, H_0 := H, env := cenv, outer := X.stack, ex := fp, fn := fun x => scope.names.lookup x == some .cell, pn := [], xe := fun _ _ => False }
section
variable {X : Cx} {pins : List (Addr × Obj)} {σ : St} {H : Hp} {s : Shared}
theorem block_start {scope : Scope} {own : List (Str × Nat)} {fp : List Addr} (I : Inv X pins σ H s) (ok : BlkOk X.N X.env.scope scope own) (hN : X.N.Nodup) (hfp : ∀ b ∈ fp, FpOk X pins H b ∧ b < s.heap.objs.size) :
    Inv (X.blk s H scope (compEnvC scope (cellsFrom (s.heap.objs.size + 1) scope.names (cloFrom X.env.cells scope.names [])) s.heap.objs.size X.env) fp) [] (wipe σ (own.map (·.2))) H { s with heap := pushCells (s.heap.push { cls := .type "dict", data := .dict #[] }) scope.names } := by
  have hfree : ∀ y ∈ scope.names, y.2 = .free → ∃ c, X.env.cells.lookup y.1 = some c := fun y hy e => by
    rcases ok.free y hy e with k | k
    · exact I.ok.has _ (.inl k)
    · exact I.ok.has _ (.inr k)
  generalize hcenv : compEnvC scope (cellsFrom (s.heap.objs.size + 1) scope.names (cloFrom X.env.cells scope.names [])) s.heap.objs.size X.env = cenv
  have kp : ∀ b o, s.heap.get? b = some o → (pushCells (s.heap.push { cls := .type "dict", data := .dict #[] }) scope.names).get? b = some o := fun b o e => pushCells_keeps _ _ _ _ (Heap.get?_push_of_some _ e)
  have hL : cenv.locals = s.heap.objs.size := by rw [← hcenv]; rfl
  have hcl : cenv.cells = cellsFrom (s.heap.objs.size + 1) scope.names (cloFrom X.env.cells scope.names []) := by rw [← hcenv]; rfl
  have hsc : cenv.scope = relS scope X.env.scope := by rw [← hcenv]; rfl
  rw [← Heap.size_push s.heap { cls := .type "dict", data := .dict #[] }] at hcl
  have cm : ∀ {y c}, (y, c) ∈ cloFrom X.env.cells scope.names [] → X.env.cells.lookup y = some c ∧ c < s.heap.objs.size := fun {y c} hm => by
    rcases cloFrom_mem hm with hm | ⟨h1, rfl⟩
    · cases hm
    · obtain ⟨c, hc⟩ := hfree _ h1 rfl
      rw [hc]
      obtain ⟨w, z⟩ := I.cell _ _ hc
      exact ⟨rfl, z.lt⟩
  have mem : ∀ {y c}, cenv.cells.lookup y = some c → (X.env.cells.lookup y = some c ∧ c < s.heap.objs.size) ∨ (s.heap.objs.size + 1 ≤ c ∧ CellAt (pushCells (s.heap.push { cls := .type "dict", data := .dict #[] }) scope.names) c none) := fun {y c} e => by
    rw [hcl] at e
    rcases cells_mem (PySem.mem_of_lookup e) with hm | ⟨_, h2, h3⟩
    · exact .inl (cm hm)
    · rw [Heap.size_push] at h2; exact .inr ⟨h2, h3⟩
  have look : ∀ {y}, scope.names.lookup y = some .free → ∃ c, cenv.cells.lookup y = some c ∧ X.env.cells.lookup y = some c := fun {y} hl => by
    have hy : (y, NameKind.free) ∈ scope.names := PySem.mem_of_lookup hl
    obtain ⟨c', e'⟩ := mem_lookup (cells_acc (names := scope.names) (n := (s.heap.push { cls := .type "dict", data := .dict #[] }).objs.size) (cloFrom_has (cells := X.env.cells) (acc := []) hy))
    rw [← hcl] at e'
    refine ⟨c', e', ?_⟩
    rw [hcl] at e'
    rcases cells_mem (PySem.mem_of_lookup e') with hm | ⟨h1, _, _⟩
    · exact (cm hm).1
    · have := ok.uniq _ h1
      rw [hl] at this; cases this
  have okB : (X.blk s H scope cenv fp).Ok := by
    refine ⟨I.ok.mod, by show cenv.scope.kind = _; rw [hsc]; exact ok.kind, by show cenv.globals = _; rw [← hcenv]; exact I.ok.glob, by show cenv.builtins = _; rw [← hcenv]; exact I.ok.blt, by show s.heap.objs.size ≤ cenv.locals; rw [hL]; exact Nat.le_refl _,
      fun y z c e1 e2 => ?_, fun y hy => ?_, fun y c z e => ?_, I.ok.hd, I.ok.frames, .inl rfl, fun b hb => ⟨?_, fun y c e z => ?_⟩, I.bs, Nat.le_trans I.ok.bsz I.sz, fun b o e hb => ?_, fun b hb z => ?_, I.stack, I.stkFree⟩
    · have e1 : cenv.cells.lookup y = some c := e1
      have e2 : cenv.cells.lookup z = some c := e2
      rw [hcl] at e1 e2
      refine cells_inj (fun p hp => ?_) (fun y z c a b => I.ok.inj y z c (cm a).1 (cm b).1) (PySem.mem_of_lookup e1) (PySem.mem_of_lookup e2)
      rw [Heap.size_push]
      exact Nat.lt_succ_of_lt (cm (y := p.1) (c := p.2) hp).2
    · show ∃ c, cenv.cells.lookup y = some c
      have key : ∀ k, cenv.kindOf y = some k → (k = .cell ∨ k = .free) → ∃ c, cenv.cells.lookup y = some c := fun k hk hk' => by
        unfold Env.kindOf at hk
        rw [hsc] at hk
        obtain ⟨k', e, r⟩ := lookup_relS hk
        have : k' = .cell ∨ k' = .free := by
          rcases r with rfl | ⟨rfl, _⟩
          · exact hk'
          · exact .inr rfl
        rcases this with rfl | rfl
        · obtain ⟨c, hm⟩ := cells_has (n := (s.heap.push { cls := .type "dict", data := .dict #[] }).objs.size) (acc := cloFrom X.env.cells scope.names []) (PySem.mem_of_lookup e)
          obtain ⟨c', e'⟩ := mem_lookup hm
          exact ⟨c', by rw [hcl]; exact e'⟩
        · obtain ⟨c, h1, _⟩ := look e
          exact ⟨c, h1⟩
      rcases hy with hy | hy
      · exact key _ hy (.inl rfl)
      · exact key _ hy (.inr rfl)
    · have z : (scope.names.lookup y == some NameKind.cell) = true := z
      have z : scope.names.lookup y = some .cell := by simpa using z
      have e : cenv.cells.lookup y = some c := e
      rw [hcl] at e
      rcases cells_mem (PySem.mem_of_lookup e) with hm | ⟨_, h2, _⟩
      · rcases cloFrom_mem hm with hm | ⟨h1, _⟩
        · cases hm
        · have q := ok.uniq _ h1
          rw [z] at q; cases q
      · rw [Heap.size_push] at h2
        exact Nat.le_of_succ_le h2
    · show b ≠ cenv.locals
      rw [hL]; exact Nat.ne_of_lt (hfp b hb).2
    · have e : cenv.cells.lookup y = some c := e
      rcases mem e with ⟨h1, _⟩ | ⟨h1, _⟩
      · exact (hfp b hb).1.2.2.2.2.1 y c h1 z
      · have h2 : s.heap.objs.size + 1 ≤ b := by rw [← z]; exact h1
        exact absurd (Nat.lt_of_lt_of_le (hfp b hb).2 (Nat.le_of_succ_le h2)) (Nat.lt_irrefl _)
    · rcases (hfp b hb).1.2.2.2.1 with z | z
      · exact I.ok.noex b o e z
      · exact absurd (Nat.lt_of_lt_of_le (Heap.lt_size e) (Nat.le_trans I.ok.bsz z)) (Nat.lt_irrefl _)
    · rcases List.mem_cons.mp (I.stkSub b z) with z | z
      · exact (hfp b hb).1.2.1 z
      · exact (hfp b hb).1.2.2.1 z
  refine ⟨okB, rfl, I.bare, Un.kept kp, ⟨fun _ => none, ?_, fun i y av e1 e2 e3 => ?_⟩, fun y c e => ?_, ?_, fun y c e => ?_, fun p hp => ?_, I.hok.kept kp, by rw [wipe_length]; exact I.len⟩
  · show Heap.Ns _ cenv.locals _
    rw [hL]
    exact Heap.Ns.keeps (Heap.Ns.new ..) fun b o e => pushCells_keeps _ _ _ _ e
  · obtain ⟨e2, hne⟩ := wipe_some e2
    have hfr : scope.names.lookup y = some .free ∧ (cenv.kindOf y = some .cell ∨ cenv.kindOf y = some .free) := by
      have key : ∀ k, cenv.scope.names.lookup y = some k → k = .local ∨ k = .cell ∨ k = .free → scope.names.lookup y = some .free ∧ (cenv.kindOf y = some .cell ∨ cenv.kindOf y = some .free) := fun k hk hk' => by
        have hk0 := hk
        rw [hsc] at hk
        obtain ⟨k', e, r⟩ := lookup_relS hk
        have no : ¬ (k' = .local ∨ k' = .cell) := fun hh => by
          rcases ok.own _ (PySem.mem_of_lookup e) hh with e' | e'
          · obtain ⟨p, hp, hpy⟩ := List.mem_map.mp e'
            have e3 := ok.ix p hp
            have : p.1 = y := hpy
            rw [this] at e3
            exact hne (List.mem_map.mpr ⟨p, hp, nodup_ix hN e3 e1⟩)
          · exact e' (List.mem_of_getElem? e1)
        rcases r with rfl | ⟨rfl, rfl⟩
        · rcases hk' with rfl | rfl | rfl
          · exact absurd (.inl rfl) no
          · exact absurd (.inr rfl) no
          · exact ⟨e, .inr hk0⟩
        · exact ⟨e, .inl hk0⟩
      have e3 : Vis cenv.scope y := e3
      rcases e3 with e3 | e3 | e3
      · exact key _ e3 (.inl rfl)
      · exact key _ e3 (.inr (.inl rfl))
      · exact key _ e3 (.inr (.inr rfl))
    obtain ⟨m, hn, hl⟩ := I.loc
    have hvis : Vis X.env.scope y := (ok.free _ (PySem.mem_of_lookup hfr.1) rfl).elim (fun k => .inr (.inl k)) (fun k => .inr (.inr k))
    obtain ⟨w, r, q⟩ := hl i y av e1 e2 hvis
    refine ⟨w, r, .inr ⟨hfr.2, ?_⟩⟩
    obtain ⟨c, h1, h2⟩ := look hfr.1
    rcases q with ⟨k, _⟩ | ⟨_, c', e', z⟩
    · have k : X.env.scope.names.lookup y = some .local := k
      rcases ok.free _ (PySem.mem_of_lookup hfr.1) rfl with k' | k' <;> rw [show X.env.scope.names.lookup y = _ from k'] at k <;> cases k
    · rw [h2] at e'; cases e'
      exact ⟨c, h1, z.keeps kp⟩
  · have e : cenv.cells.lookup y = some c := e
    rcases mem e with ⟨h1, _⟩ | ⟨_, z⟩
    · obtain ⟨w, z⟩ := I.cell y c h1
      exact ⟨w, z.keeps kp⟩
    · exact ⟨_, z⟩
  · show H cenv.locals = none
    rw [hL]; exact I.hok.fresh (Nat.le_refl _)
  · have e : cenv.cells.lookup y = some c := e
    rcases mem e with ⟨h1, _⟩ | ⟨h1, _⟩
    · exact I.freeC y c h1
    · exact I.hok.fresh (Nat.le_of_succ_le h1)
  · exact absurd (show p ∈ ([] : List (Addr × Obj)) ++ [] from hp) (by simp)

/-- an item appended to a tracked list -/
theorem app_ok {E : Value → Shared → Prop} {D : Addr} {xs : List V} {y : V} {v : Value} {Q : Value → Shared → Prop} (I : Inv X pins σ H s) (hD : H D = some (.lst xs)) (hz : xs.length < sizeLine) (r : RelV y v)
    (h : ∀ s', Inv X pins σ (upd H D (.lst (xs ++ [y]))) s' → Q .none s') : wpAny (model X.prog X.w) X.A (call (.builtin "list.append") [.ref D, v]) Q E s := by
  obtain ⟨hz', its, n, ri, e⟩ := I.hok D _ hD
  have hl := ri.length
  refine append_at (hsz := by rw [List.size_toArray]; omega) e fun h' sb ho' => ?_
  refine h { s with heap := h' } (I.write (t' := s.toks) (by rw [hD]; trivial) (.inl rfl) (fun b u hb q => (sb.2 b hb).trans q) ⟨_, ho'⟩ ⟨by rw [List.length_append]; exact hz, its ++ [v], n + 1, ri.append (.cons r .nil), ?_⟩)
  rw [ho']
  simp

/-- a clause's tests -/
def PTs (X : Cx) (ifs : List Expr) (t : TT) : Prop :=
  ∀ (pins : List (Addr × Obj)) (s : Shared) (σ : St) (H : Hp) (Q : Bool → Hp → Prop), Inv X pins σ H s → t σ H Q →
    wpAny (model X.prog X.w) X.A (forIn ifs true fun c r => if r = true then do let ok ← isTrue c X.env (eval c X.env); pure (ForInStep.yield ok) else pure (ForInStep.yield r)) (TP X pins σ Q) X.xe s
def tYes : TT := fun _ H Q => Q true H
theorem pts_nil : PTs X [] tYes := fun _ _ _ H _ I h => wpAny_tests_nil ⟨H, I, h⟩
end

theorem thnF {α : Type} {t : Sem α} {Q Q' : α → Shared → Prop} {M : Model} {A : Around} {E : Value → Shared → Prop} {s : Shared} (h : wpAny M A t Q (fun _ _ => False) s) (hQ : ∀ a s, Q a s → Q' a s) : wpAny M A t Q' E s := wpAny_mono h hQ fun _ _ z => False.elim z

/-- the loop of a list comprehension's block, the target of any form (codeAny_compLoop_tests asks a target that no tuple goes to; statement and proof follow it, PyProof/CompMap.lean:41-61, with the step letOwnedTupleGo kept) -/
theorem compLoop_any {prog : Program} {w : World} {A : Around} {R : Result → Shared → Prop} {s : Shared} {elt target iter : Expr} {ifs : List Expr} {scope : Scope} {pos : Pos} {it acc : Value} {env : Env} (I : Nat → Shared → Prop)
    (turn : ∀ n s, I n s → wpAny (model prog w) A (pyNext it) (fun r s₁ => match r with
      | none => R (.ok .next) s₁
      | some v => wpAny (model prog w) A (letOwnedTupleGo target it v) (fun _ s₁' => wpAny (model prog w) A (assign target env v) (fun _ s₂ =>
          wpAny (model prog w) A (forIn ifs true fun c r => if r = true then do let ok ← isTrue c env (eval c env); pure (ForInStep.yield ok) else pure (ForInStep.yield r)) (fun ok s₃ =>
            if ok = true then wpAny (model prog w) A (eval elt env) (fun x s₄ =>
              wpAny (model prog w) A (call (.builtin "list.append") [acc, x]) (fun _ s₅ => ∃ m, m < n ∧ I m s₅) (notedBy (model prog w) A env fun e s' => R (.error e) s') s₄) (notedBy (model prog w) A env fun e s' => R (.error e) s') s₃
            else ∃ m, m < n ∧ I m s₃) (notedBy (model prog w) A env fun e s' => R (.error e) s') s₂) (notedBy (model prog w) A env fun e s' => R (.error e) s') s₁') (notedBy (model prog w) A env fun e s' => R (.error e) s') s₁) (notedBy (model prog w) A env fun e s' => R (.error e) s') s)
    (n : Nat) (h : I n s) :
    codeAny (model prog w) A (.compLoop (.ListComp elt [⟨target, iter, ifs, 0⟩] scope pos) 0 it acc env) R s := by
  refine codeAny_loop rfl I (fun n s hI => ?_) n h
  show wpAny _ A ((compTurn (.ListComp elt [⟨target, iter, ifs, 0⟩] scope pos) 0 it acc env).onRaise (fun x => do noteFrame x env; theTreesLotGoes x)) _ _ s
  refine wpAny_noted ?_
  rw [compTurn_list]
  refine wpAny_bind (wpAny_standAt (wpAny_bind (wpAny_mono (turn n s hI) (fun r s₁ h₁ => ?_) fun _ _ h' => h')))
  cases r with
  | none => exact wpAny_pure h₁
  | some v =>
    refine wpAny_bind (wpAny_mono h₁ (fun _ s₁' h₁' => ?_) fun _ _ h' => h')
    refine wpAny_bind (wpAny_mono h₁' (fun _ s₂ h₂ => wpAny_bind (wpAny_mono h₂ (fun ok s₃ h₃ => ?_) fun _ _ h' => h')) fun _ _ h' => h')
    cases ok with
    | false => exact wpAny_pure ⟨rfl, h₃⟩
    | true =>
      exact wpAny_bind (wpAny_bind (wpAny_mono h₃ (fun x s₄ h₄ => wpAny_bind (wpAny_mono h₄ (fun _ s₅ h₅ => wpAny_pure (wpAny_pure ⟨rfl, h₅⟩)) fun _ _ h' => h')) fun _ _ h' => h'))

section
variable {X : Cx}
/-- [elt for target in iter if ..]: D the new list; W by the turn and a measure, Nx what a turn is to reach -/
def tLc (wi : TI) (g : TG) (tt : TT) (te : TE) (vs : List Nat) : TE := fun σ H Q => wi σ H fun J H1 => ∀ D, H1 D = none → ∃ W : Nat → Nat → Hp → Prop, (∃ m, W 0 m (upd H1 D (.lst []))) ∧ ∀ i m H, W i m H →
  (J.stop i H ∧ Q (.ref D) H) ∨ (J.go i H ∧ ∃ Nx : Hp → Prop, (∀ H', Nx H' → ∃ m', m' < m ∧ W (i + 1) m' H') ∧ ∀ x H', J.yld i H x H' → g x (wipe σ vs) H' fun σ2 H2 => wipe σ2 vs = wipe σ vs ∧ tt σ2 H2 fun b H3 =>
    if b = true then te σ2 H3 fun y H4 => ∃ acc, H4 D = some (.lst acc) ∧ acc.length < sizeLine ∧ Nx (upd H4 D (.lst (acc ++ [y]))) else Nx H3)
theorem lc_core {pins : List (Addr × Obj)} {s : Shared} {σ : St} {H : Hp} {Q : VK} {elt tg iter : Expr} {ifs : List Expr} {scope : Scope} {own : List (Str × Nat)} {pos pos' : Pos} {wi : TI} {g : TG} {tt : TT} {te : TE} {use : Option (Value → Sem Unit)} {Qf : Value → Shared → Prop}
    (hc : X.calm = true) (hN : X.N.Nodup) (I : Inv X pins σ H s) (hi : PI X tg iter wi) (ok : BlkOk X.N X.env.scope scope own)
    (hg : ∀ (s : Shared) (H : Hp) (C : Addr) (cl : List (Str × Addr)) (fp : List Addr), PG (X.blk s H scope (compEnvC scope cl C X.env) fp) tg g) (ht : ∀ (s : Shared) (H : Hp) (C : Addr) (cl : List (Str × Addr)) (fp : List Addr), PTs (X.blk s H scope (compEnvC scope cl C X.env) fp) ifs tt)
    (he : ∀ (s : Shared) (H : Hp) (C : Addr) (cl : List (Str × Addr)) (fp : List Addr), PE (X.blk s H scope (compEnvC scope cl C X.env) fp) elt te) (hs : ∀ x, foldedSetIterable iter X.env x = pure x)
    (h : tLc wi g tt te (own.map (·.2)) σ H Q)
    (hRR : ∀ D C s' m H', Inv X pins σ H' s' → Q (.ref D) H' → s'.heap.Ns C m → FpOk X pins H' C → compPost (model X.prog X.w) X.A X.xe use Qf (.ref D) C (.ok .next) s') :
    wpAny (model X.prog X.w) X.A (comprehension (.ListComp elt [⟨tg, iter, ifs, 0⟩] scope pos) scope X.env pos' (newList []) false (eval iter X.env) use) Qf X.xe s := by
  have hfree : ∀ y ∈ scope.names, y.2 = .free → ∃ c, X.env.cells.lookup y.1 = some c := fun y hy e => by
    rcases ok.free y hy e with k | k
    · exact I.ok.has _ (.inl k)
    · exact I.ok.has _ (.inr k)
  refine wpAny_comprehension_free (use := use) rfl hs (closure_ok hfree) ok.kind (fun y hy e => by rw [ok.uniq y hy, e])
    (thn (hi pins s σ H _ I h) fun xv s1 hx => thn hx fun itv s2 h2 => ?_)
  obtain ⟨it, fp, tn, J, H2, e, I2, T, st2, f2, q⟩ := h2
  subst e
  refine wpAny_newObj_type (newEnv_comp ?_) (by show 0 ≤ sizeLine; decide)
  generalize hD : s2.heap.objs.size = D
  have hDn : H2 D = none := I2.hok.fresh (Nat.le_of_eq hD)
  obtain ⟨W, ⟨m0, w0⟩, turn⟩ := q D hDn
  -- the new list
  generalize hs3 : ({ s2 with heap := s2.heap.push { cls := .type "list", data := .seq ([] : List Value).toArray } } : Shared) = s3
  have I3 : Inv X pins σ (upd H2 D (.lst [])) s3 := by
    rw [← hs3]
    refine I2.laid (t' := s2.toks) (fun b o e => Heap.get?_push_of_some _ e) (Nat.le_of_eq hD) ⟨Nat.zero_le _, [], 0, .nil, ?_⟩
    rw [← hD]
    exact Heap.get?_push_size _ rfl
  have h3 : s3.heap = s2.heap.push { cls := .type "list", data := .seq ([] : List Value).toArray } := by rw [← hs3]
  have sz : ∀ b ∈ fp, b < s2.heap.objs.size := fun b hb => by
    obtain ⟨o, e, _⟩ := T.obj _ _ st2 b hb
    exact Heap.lt_size e
  have f3 : ∀ b ∈ fp, FpOk X pins (upd H2 D (.lst [])) b ∧ b < s3.heap.objs.size := fun b hb => by
    have hlt := sz b hb
    refine ⟨⟨?_, (f2 b hb).2⟩, by rw [h3, Heap.size_push]; exact Nat.lt_succ_of_lt hlt⟩
    rw [upd_ne (by rw [← hD]; exact Nat.ne_of_lt hlt)]
    exact (f2 b hb).1
  have st3 : tn 0 s3.heap := T.keep _ _ _ st2 fun b _ o e => by rw [h3]; exact Heap.get?_push_of_some _ e
  have I4 := block_start I3 ok hN f3
  have pg := hg s3 (upd H2 D (.lst [])) s3.heap.objs.size (cellsFrom (s3.heap.objs.size + 1) scope.names (cloFrom X.env.cells scope.names [])) fp
  have pt := ht s3 (upd H2 D (.lst [])) s3.heap.objs.size (cellsFrom (s3.heap.objs.size + 1) scope.names (cloFrom X.env.cells scope.names [])) fp
  have pe := he s3 (upd H2 D (.lst [])) s3.heap.objs.size (cellsFrom (s3.heap.objs.size + 1) scope.names (cloFrom X.env.cells scope.names [])) fp
  show codeAny _ _ (.compStart (.ListComp elt [⟨tg, iter, ifs, 0⟩] scope pos) 0 (.ref it) (.ref D) (compEnvC scope (cellsFrom (s3.heap.objs.size + 1) scope.names (cloFrom X.env.cells scope.names [])) s3.heap.objs.size X.env)) (compPost (model X.prog X.w) X.A X.xe use Qf (.ref D) s3.heap.objs.size) { s3 with heap := pushCells (s3.heap.push { cls := .type "dict", data := .dict #[] }) scope.names }
  have nfp : ∀ b ∈ fp, (upd H2 D (.lst [])) b = none := fun b hb => (f3 b hb).1.1
  generalize hce : compEnvC scope (cellsFrom (s3.heap.objs.size + 1) scope.names (cloFrom X.env.cells scope.names [])) s3.heap.objs.size X.env = ce at I4 pg pt pe ⊢
  have cL : ce.locals = s3.heap.objs.size := by subst hce; rfl
  generalize hH3 : upd H2 D (.lst []) = H3 at I3 I4 pg pt pe w0 nfp f3
  generalize hs4 : ({ s3 with heap := pushCells (s3.heap.push { cls := .type "dict", data := .dict #[] }) scope.names } : Shared) = s4 at I4 ⊢
  have st4 : tn 0 s4.heap := T.keep _ _ _ st3 fun b _ o e => by rw [← hs4]; exact pushCells_keeps _ _ _ _ (Heap.get?_push_of_some _ e)
  have stat : ∀ {σ' : St} {H' : Hp} {s' : Shared}, Inv (X.blk s3 H3 scope ce fp) [] σ' H' s' → (∀ b ∈ fp, H' b = none) → ∀ b ∈ fp, FpOk (X.blk s3 H3 scope ce fp) [] H' b := fun {σ' H' s'} I' hn b hb =>
    ⟨hn b hb, (I'.ok.exf b hb).1, I'.ok.exfs b hb, .inl hb, fun x c e => (I'.ok.exf b hb).2 x c e, fun p hp => absurd (show p ∈ ([] : List (Addr × Obj)) ++ [] from hp) (by simp)⟩
  have loop : codeAny (model X.prog X.w) X.A (.compLoop (.ListComp elt [⟨tg, iter, ifs, 0⟩] scope pos) 0 (.ref it) (.ref D) ce) (compPost (model X.prog X.w) X.A X.xe use Qf (.ref D) s3.heap.objs.size) s4 := by
    refine compLoop_any (fun n s' => ∃ i H', Inv (X.blk s3 H3 scope ce fp) [] (wipe σ (own.map (·.2))) H' s' ∧ tn i s'.heap ∧ (∀ b ∈ fp, H' b = none) ∧ W i n H') ?_ m0 ⟨0, H3, I4, st4, nfp, w0⟩
    rintro n s5 ⟨i, H5, I5, st5, n5, w5⟩
    rcases turn i n H5 w5 with ⟨stop, qq⟩ | ⟨go, Nx, hNx, step⟩
    · have td := T.done (X.blk s3 H3 scope ce fp) rfl rfl rfl hc i [] s5 _ H5 (fun _ _ => False) I5 (stat I5 n5) st5 stop
      refine thnF td fun r s6 ⟨hr, I6⟩ => ?_
      subst hr
      -- back in the def's context
      have I7 : Inv X pins σ H5 s6 := I3.call' (ch := fp) I6.os I6.base I6.hok I6.bare fun b hb => ⟨(f3 b hb).1.2.2.2.1, (f3 b hb).1.2.1, (f3 b hb).1.2.2.2.2.1, (f3 b hb).1.2.2.2.2.2⟩
      have nC : H5 s3.heap.objs.size = none := by
        have z : H5 ce.locals = none := I6.free
        rw [cL] at z
        exact z
      obtain ⟨m, hn, _⟩ := I6.loc
      have hn : s6.heap.Ns ce.locals m := hn
      rw [cL] at hn
      exact hRR D s3.heap.objs.size s6 m H5 I7 qq hn (I3.fpOk (Nat.le_refl _) nC)
    · have ti := T.item (X.blk s3 H3 scope ce fp) rfl rfl rfl hc i [] s5 _ H5 (fun _ _ => False) I5 (stat I5 n5) st5 go
      refine thnF ti fun r s6 ⟨u, hr, h6⟩ => ?_
      subst hr
      refine thnF h6 fun _ s7 ⟨x, H7, I7, r7, y7, st7, n7⟩ => ?_
      have I7' := I7.pinned (stat I7 n7) (T.obj _ _ st7)
      refine thnF (pg _ s7 _ H7 x u _ I7' r7 (step x H7 y7)) fun _ s8 ⟨σ8, H8, I8, hw8, q8⟩ => ?_
      refine thnF (pt _ s8 σ8 H8 _ I8 q8) fun b s9 ⟨H9, I9, q9⟩ => ?_
      -- the turn's end
      have fin : ∀ {s' : Shared} {H' : Hp}, Inv (X.blk s3 H3 scope ce fp) ([] ++ pinsAt fp s7.heap) σ8 H' s' → Nx H' → ∃ m, m < n ∧ ∃ i H', Inv (X.blk s3 H3 scope ce fp) [] (wipe σ (own.map (·.2))) H' s' ∧ tn i s'.heap ∧ (∀ b ∈ fp, H' b = none) ∧ W i m H' := fun {s' H'} I' nx => by
        obtain ⟨m', hm, w'⟩ := hNx H' nx
        have pin' : ∀ b ∈ fp, ∀ o, s7.heap.get? b = some o → s'.heap.get? b = some o ∧ H' b = none := fun b hb o e =>
          let z := I'.pin (b, o) (List.mem_append_right _ (List.mem_append_right _ (mem_pinsAt hb e)))
          ⟨z.1, z.2.1⟩
        have hl : (wipe σ (own.map (·.2))).length = σ8.length := by rw [← hw8, wipe_length]
        refine ⟨m', hm, i + 1, H', (I'.unpinned (pins := [])).weak hl (fun j v e => ?_), T.keep _ _ _ st7 fun b hb o e => (pin' b hb o e).1, fun b hb => ?_, w'⟩
        · rw [← hw8] at e
          exact (wipe_some e).1
        · obtain ⟨o, e, _⟩ := T.obj _ _ st7 b hb
          exact (pin' b hb o e).2
      cases b with
      | false =>
        simp only [Bool.false_eq_true, if_false] at q9 ⊢
        exact fin I9 q9
      | true =>
        simp only [if_true] at q9 ⊢
        refine thnF (pe _ s9 σ8 H9 _ I9 q9) fun z s10 ⟨yv, H10, I10, r10, acc, hD10, hz10, nx⟩ => ?_
        exact app_ok (X := X.blk s3 H3 scope ce fp) I10 hD10 hz10 r10 fun s11 I11 => fin I11 nx
  exact codeAny_compStart_list loop (T.self X.A 0 _ _ _ st4 loop)
/-- as a value -/
theorem pe_lc {elt tg iter : Expr} {ifs : List Expr} {scope : Scope} {own : List (Str × Nat)} {pos : Pos} {wi : TI} {g : TG} {tt : TT} {te : TE} (hc : X.calm = true) (hN : X.N.Nodup) (hi : PI X tg iter wi) (ok : BlkOk X.N X.env.scope scope own)
    (hg : ∀ (s : Shared) (H : Hp) (C : Addr) (cl : List (Str × Addr)) (fp : List Addr), PG (X.blk s H scope (compEnvC scope cl C X.env) fp) tg g) (ht : ∀ (s : Shared) (H : Hp) (C : Addr) (cl : List (Str × Addr)) (fp : List Addr), PTs (X.blk s H scope (compEnvC scope cl C X.env) fp) ifs tt)
    (he : ∀ (s : Shared) (H : Hp) (C : Addr) (cl : List (Str × Addr)) (fp : List Addr), PE (X.blk s H scope (compEnvC scope cl C X.env) fp) elt te) (hs : ∀ x, foldedSetIterable iter X.env x = pure x := by intro _; rfl) :
    PE X (.ListComp elt [⟨tg, iter, ifs, 0⟩] scope pos) (tLc wi g tt te (own.map (·.2))) := by
  intro pins s σ H Q I h
  rw [eval_ListComp]
  refine lc_core hc hN I hi ok hg ht he hs h fun D C s' m H' I' q hn f => ⟨m, hn, fun h'' sb => ?_⟩
  obtain ⟨f0, f1, f2, f3, f4, f5⟩ := f
  exact ⟨.ref D, H', I'.turned (t' := s'.toks) (fun b o hb e => (sb.2 b hb).trans e) f0 f1 f3 f4 f5, rfl, q⟩
/-- name = [..] on one line, the name a local -/
theorem ps_setLc {i : Nat} {y : Str} {py : Pos} {elt tg iter : Expr} {ifs : List Expr} {scope : Scope} {own : List (Str × Nat)} {pos spos : Pos} {wi : TI} {g : TG} {tt : TT} {te : TE} (hc : X.calm = true) (hN : X.N.Nodup) (hy : X.N[i]? = some y) (hyl : X.env.scope.names.lookup y = some .local)
    (hsw : swapsWith (.ListComp elt [⟨tg, iter, ifs, 0⟩] scope pos) (some (.Name y py)) spos.line X.env = pure true) (hi : PI X tg iter wi) (ok : BlkOk X.N X.env.scope scope own)
    (hg : ∀ (s : Shared) (H : Hp) (C : Addr) (cl : List (Str × Addr)) (fp : List Addr), PG (X.blk s H scope (compEnvC scope cl C X.env) fp) tg g) (ht : ∀ (s : Shared) (H : Hp) (C : Addr) (cl : List (Str × Addr)) (fp : List Addr), PTs (X.blk s H scope (compEnvC scope cl C X.env) fp) ifs tt)
    (he : ∀ (s : Shared) (H : Hp) (C : Addr) (cl : List (Str × Addr)) (fp : List Addr), PE (X.blk s H scope (compEnvC scope cl C X.env) fp) elt te) (hs : ∀ x, foldedSetIterable iter X.env x = pure x := by intro _; rfl) :
    PS X (.Assign [.Name y py] (.ListComp elt [⟨tg, iter, ifs, 0⟩] scope pos) spos) (tAsg (tLc wi g tt te (own.map (·.2))) (gName i)) := by
  intro pins s σ H D I h
  rw [exec_Assign_Name_used _ _ _ _ hsw]
  refine wpAny_bind (wpAny_standAt (wpAny_bind ?_))
  show wpAny _ X.A (do let _ ← comprehension (.ListComp elt [⟨tg, iter, ifs, 0⟩] scope pos) scope X.env (firstIterPos [⟨tg, iter, ifs, 0⟩] pos) (newList []) false (eval iter X.env) (some (assign (.Name y py) X.env))) _ _ s
  have h : tLc wi g tt te (own.map (·.2)) σ H (fun x H1 => gName i x σ H1 D.nx) := h
  refine wpAny_bind (thn (lc_core (Qf := fun _ s' => SP X pins D .next s') hc hN I hi ok hg ht he hs h fun L C s' m H' I' q hn f => ?_) fun _ s' hq => wpAny_pure (wpAny_pure hq))
  show wpAny _ _ (assign (.Name y py) X.env (.ref L)) _ _ _
  refine wpAny_assign_Name (store_ok2 (v := V.ref L) I' hN hy (.inl hyl) rfl (fun s2 I2 ⟨a, sb, ha⟩ => ?_) (.inr hyl))
  obtain ⟨f0, f1, f2, f3, f4, f5⟩ := f
  have haC : C ≠ a := by
    rcases ha with z | z
    · rw [z]; exact f1
    · exact fun e => f4 y a z e.symm
  refine ⟨m, hn.sameBut sb haC, fun h3 sb3 => ?_⟩
  exact ⟨_, H', I2.turned (t' := s2.toks) (fun b o hb e => (sb3.2 b hb).trans e) f0 f1 f3 f4 f5, q⟩
theorem sw_true {elt : Expr} {gs : List Comprehension} {scope : Scope} {pos py : Pos} {y : Str} {l : Nat} {env : Env} (hk : env.scope.kind = .function) (hy : env.scope.names.lookup y = some .local) (hl : (py.line == pos.line) = true)
    (ha : (scope.names.any fun (n, k) => n == y && (k == .local || k == .cell)) = false) : swapsWith (.ListComp elt gs scope pos) (some (.Name y py)) l env = pure true := by
  have ky : env.kindOf y = some .local := hy
  have hb : env.blockKind = .function := by unfold Env.blockKind; rw [hk]; rfl
  unfold swapsWith
  simp only [hb, ky, ha, Expr.pos, hl]
  rfl
end

/-! ### the forms one uses -/
/-- over a range: Pv by the turn and the heap (the new list at D within) -/
theorem lc_range {lo : Int} {n : Nat} {g : TG} {tt : TT} {te : TE} {vs : List Nat} {σ : St} {H1 : Hp} {D : Addr} {Qd : Hp → Prop} (Pv : Nat → Hp → Prop) (h0 : Pv 0 (upd H1 D (.lst [])))
    (hs : ∀ i H, i < n → Pv i H → g (.int (lo + i)) (wipe σ vs) H fun σ2 H2 => wipe σ2 vs = wipe σ vs ∧ tt σ2 H2 fun b H3 =>
      if b = true then te σ2 H3 fun y H4 => ∃ acc, H4 D = some (.lst acc) ∧ acc.length < sizeLine ∧ Pv (i + 1) (upd H4 D (.lst (acc ++ [y]))) else Pv (i + 1) H3) (hd : ∀ H, Pv n H → Qd H) :
    ∃ W : Nat → Nat → Hp → Prop, (∃ m, W 0 m (upd H1 D (.lst []))) ∧ ∀ i m H, W i m H →
      ((Itr lo n).stop i H ∧ Qd H) ∨ ((Itr lo n).go i H ∧ ∃ Nx : Hp → Prop, (∀ H', Nx H' → ∃ m', m' < m ∧ W (i + 1) m' H') ∧ ∀ x H', (Itr lo n).yld i H x H' → g x (wipe σ vs) H' fun σ2 H2 => wipe σ2 vs = wipe σ vs ∧ tt σ2 H2 fun b H3 =>
        if b = true then te σ2 H3 fun y H4 => ∃ acc, H4 D = some (.lst acc) ∧ acc.length < sizeLine ∧ Nx (upd H4 D (.lst (acc ++ [y]))) else Nx H3) := by
  refine ⟨fun i m H => m = n - i ∧ i ≤ n ∧ Pv i H, ⟨n, by simp, Nat.zero_le _, h0⟩, ?_⟩
  rintro i m H ⟨rfl, hi, p⟩
  by_cases hlt : i < n
  · refine .inr ⟨hlt, Pv (i + 1), fun H' p' => ⟨n - (i + 1), by omega, rfl, hlt, p'⟩, fun x H' y => ?_⟩
    obtain ⟨e, y⟩ := y
    subst e y
    exact hs i _ hlt p
  · have e : i = n := by omega
    subst e
    exact .inl ⟨Nat.le_refl _, hd H p⟩
/-- over a list that the block leaves as it is -/
theorem lc_list {K : PySem.W.Frag} {a : Addr} {xs : List V} {g : TG} {tt : TT} {te : TE} {vs : List Nat} {σ : St} {H1 : Hp} {D : Addr} {Qd : Hp → Prop} (Pv : Nat → Hp → Prop) (h0 : Pv 0 (upd H1 D (.lst []))) (hl : ∀ i H, i ≤ xs.length → Pv i H → SqL K H a xs)
    (hs : ∀ i x H, xs[i]? = some x → Pv i H → g x (wipe σ vs) H fun σ2 H2 => wipe σ2 vs = wipe σ vs ∧ tt σ2 H2 fun b H3 =>
      if b = true then te σ2 H3 fun y H4 => ∃ acc, H4 D = some (.lst acc) ∧ acc.length < sizeLine ∧ Pv (i + 1) (upd H4 D (.lst (acc ++ [y]))) else Pv (i + 1) H3) (hd : ∀ H, Pv xs.length H → Qd H) :
    ∃ W : Nat → Nat → Hp → Prop, (∃ m, W 0 m (upd H1 D (.lst []))) ∧ ∀ i m H, W i m H →
      ((Itl K a).stop i H ∧ Qd H) ∨ ((Itl K a).go i H ∧ ∃ Nx : Hp → Prop, (∀ H', Nx H' → ∃ m', m' < m ∧ W (i + 1) m' H') ∧ ∀ x H', (Itl K a).yld i H x H' → g x (wipe σ vs) H' fun σ2 H2 => wipe σ2 vs = wipe σ vs ∧ tt σ2 H2 fun b H3 =>
        if b = true then te σ2 H3 fun y H4 => ∃ acc, H4 D = some (.lst acc) ∧ acc.length < sizeLine ∧ Nx (upd H4 D (.lst (acc ++ [y]))) else Nx H3) := by
  refine ⟨fun i m H => m = xs.length - i ∧ i ≤ xs.length ∧ Pv i H, ⟨xs.length, by simp, Nat.zero_le _, h0⟩, ?_⟩
  rintro i m H ⟨rfl, hi, p⟩
  have q := hl i H hi p
  by_cases hlt : i < xs.length
  · refine .inr ⟨⟨xs, xs[i], q, by simp [hlt]⟩, Pv (i + 1), fun H' p' => ⟨xs.length - (i + 1), by omega, rfl, hlt, p'⟩, fun x H' y => ?_⟩
    obtain ⟨e, y⟩ := y
    subst e
    exact hs i x _ (y xs q) p
  · have e : i = xs.length := by omega
    subst e
    exact .inl ⟨⟨xs, q, Nat.le_refl _⟩, hd H p⟩
def blkC (N : List Str) (sc scope : Scope) (own : List (Str × Nat)) : Bool :=
  (match scope.kind with | .function => true | _ => false) && (scope.names.all fun y => decide (scope.names.lookup y.1 = some y.2)) && (own.all fun p => decide (N[p.2]? = some p.1)) &&
    (scope.names.all fun y => match y.2 with
      | .free => (match sc.names.lookup y.1 with | some .cell => true | some .free => true | _ => false)
      | .local => decide (y.1 ∈ own.map (·.1)) || decide (y.1 ∉ N)
      | .cell => decide (y.1 ∈ own.map (·.1)) || decide (y.1 ∉ N)
      | _ => true)
theorem blkOk_by {N : List Str} {sc scope : Scope} {own : List (Str × Nat)} (h : blkC N sc scope own = true) : BlkOk N sc scope own := by
  unfold blkC at h
  simp only [Bool.and_eq_true, List.all_eq_true, decide_eq_true_eq] at h
  obtain ⟨⟨⟨h1, h2⟩, h3⟩, h4⟩ := h
  refine ⟨?_, h2, h3, fun y hy e => ?_, fun y hy e => ?_⟩
  · split at h1
    · assumption
    · cases h1
  · have q := h4 y hy
    simp only [e] at q
    split at q <;> first | exact .inl (by assumption) | exact .inr (by assumption) | cases q
  · have q := h4 y hy
    rcases e with e | e <;> (simp only [e, Bool.or_eq_true, decide_eq_true_eq] at q; exact q)
end L2

namespace L2
open PySem PySem.Spec PyProof.Rows

section
variable {prog : Program} {w : World} {A : Around} {R : Result → Shared → Prop} {s : Shared} {elt t0 i0 t1 i1 : Expr} {ifs0 ifs1 : List Expr} {scope : Scope} {pos : Pos} {it acc : Value} {env : Env}
end

section
variable {X : Cx}
end
end L2

namespace L2
open PySem PySem.Spec PyProof.Rows

/-! ### lists of pairs as tables -/
section
variable {κ : Type} [DecidableEq κ]
end


/-! ### a tracked dict, its keys ints and texts or tuples of these -/
/-- raw entries of a dict with tuple keys -/
abbrev KT (H : Hp) : List (List Key × V) → List (List Key × Addr × Value) → Prop := Paired fun p q => p.1 = q.1 ∧ H q.2.1 = some (.tup (p.1.map kV)) ∧ RelV p.2 q.2.2
section
variable {P : Program} {w : World} {H : Hp} {h : Heap} {a : Addr}
end

section
variable {X : Cx} {pins : List (Addr × Obj)} {σ : St} {H : Hp} {s : Shared} {a : Addr} {y v : V} {u r : Value} {o : Option V} {A : Around} {E : Value → Shared → Prop}

end

section
variable {X : Cx} {pins : List (Addr × Obj)} {σ : St} {H : Hp} {s : Shared} {a : Addr} {kvs : List (Key × V)} {k : Key} {u : Value} {A : Around} {E : Value → Shared → Prop}
end


/-! ### readings and rules -/
section
variable {X : Cx} {o i e value : Expr} {pos pos' tpos : Pos} {td ty tv : TE}
end


/-! ### displays -/
section
variable {X : Cx} {pos : Pos}
end

abbrev VV : List (V × V) → List (Value × Value) → Prop := Paired fun p q => RelV p.1 q.1 ∧ RelV p.2 q.2
/-! ### methods -/
/-- a method call o.m(e) of a built-in, with one argument: what must be seen of the text -/
structure M1 (X : Cx) (o : Expr) (m : Str) (apos : Pos) (e : Expr) (cpos : Pos) : Prop where
  base : attributeBase o m X.env (eval o X.env) = eval o X.env
  few : ((backTo cpos (starEach [e] X.env)).all (fun x => !x.1) && (backToKw cpos (keywordEach [] X.env)).all (fun x => x.1.isSome)
    && decide (([e] : List Expr).length + ([] : List Keyword).length + (if ([] : List Keyword).isEmpty then 0 else 1) < 30)) = true
  line : (apos.endLine == cpos.line) = true
  trees : backTo cpos (starEach [e] X.env) = [(false, eval e X.env)]
structure M2 (X : Cx) (o : Expr) (m : Str) (apos : Pos) (e f : Expr) (cpos : Pos) : Prop where
  base : attributeBase o m X.env (eval o X.env) = eval o X.env
  few : ((backTo cpos (starEach [e, f] X.env)).all (fun x => !x.1) && (backToKw cpos (keywordEach [] X.env)).all (fun x => x.1.isSome)
    && decide (([e, f] : List Expr).length + ([] : List Keyword).length + (if ([] : List Keyword).isEmpty then 0 else 1) < 30)) = true
  line : (apos.endLine == cpos.line) = true
  trees : backTo cpos (starEach [e, f] X.env) = [(false, eval e X.env), (false, eval f X.env)]

section
variable {X : Cx} {pins : List (Addr × Obj)} {σ : St} {H : Hp} {s : Shared} {a : Addr} {y d : V} {u r : Value} {o : Option V} {A : Around} {E : Value → Shared → Prop}
end

section
variable {X : Cx} {o e f : Expr} {apos cpos : Pos} {td ty tx : TE}
end

/-! ### dict(d): a copy -/
section
variable {X : Cx} {pins : List (Addr × Obj)} {σ : St} {H : Hp} {s : Shared} {a : Addr} {kvs : List (Key × V)} {A : Around} {E : Value → Shared → Prop}
end


section
variable {X : Cx} {pins : List (Addr × Obj)} {σ : St} {H : Hp} {s : Shared} {a : Addr} {y : V} {u : Value} {A : Around} {E : Value → Shared → Prop}
end
end L2

namespace L2
open PySem PySem.Spec PyProof.Rows

section
variable {prog : Program} {w : World} {A : Around} {E : Value → Shared → Prop}
end

section
variable {X : Cx}
end
end L2

namespace L2
open PySem PySem.Spec PyProof.Rows

theorem boot_reversed5 : bootBuiltins "reversed" = some (.type "reversed") := by decide +kernel

section
variable {X : Cx} {pins : List (Addr × Obj)} {σ : St} {H : Hp} {s : Shared} {h' : Heap}
/-- several records of ours have turned -/
theorem Inv.turnedL {t' : Nat} {ch : List Addr} (I : Inv X pins σ H s) (k : ∀ b o, b ∉ ch → s.heap.get? b = some o → h'.get? b = some o) (hf : ∀ b ∈ ch, FpOk X pins H b) : Inv X pins σ H { s with heap := h', toks := t' } := by
  have nit : ∀ b u, H b = some u → b ∉ ch := fun b u e z => by
    have q := (hf b z).1
    rw [q] at e; cases e
  refine I.step (g' := s.gens) (d' := s.drawn) (ch := ch) (fun b hb => ⟨(hf b hb).2.2.2.1, (hf b hb).2.1, (hf b hb).2.2.2.2.1, (hf b hb).2.2.2.2.2⟩) (fun b o _ _ hc e _ => k b o hc e) (fun b o _ _ hc e _ => ⟨o.slots, k b o hc e⟩)
    (fun _ _ _ _ n => n) (fun b o hc e => ⟨o, k b o hc e⟩) (fun _ _ e => e) (fun _ _ _ e => e) (fun b ps e => ⟨#[], by rw [e]; simp⟩) (fun m hm => ?_) (fun b u e => ?_) I.bare
  · obtain ⟨o, es, ep, ho, r⟩ := hm
    exact ⟨o, es, ep, k _ o (fun z => (hf _ z).2.1 rfl) ho, r⟩
  · refine (I.hok b u e).stay (fun c v hc q => k c v ?_ q) (fun _ q => q) fun _ _ q => q
    rcases hc with z | z
    · rw [z]; exact nit b u e
    · exact nit c _ z
/-- .. and one new object is laid -/
theorem Inv.turnedNew {t' : Nat} {ch : List Addr} {T : Addr} {ob : HO} (I : Inv X pins σ H s) (k : ∀ b o, b ∉ ch → s.heap.get? b = some o → h'.get? b = some o) (hf : ∀ b ∈ ch, FpOk X pins H b) (hT : s.heap.objs.size ≤ T)
    (new : ObjOk X.prog X.w (upd H T ob) h' T ob) : Inv X pins σ (upd H T ob) { s with heap := h', toks := t' } := by
  have hn : H T = none := I.hok.fresh hT
  have nit : ∀ b u, H b = some u → b ∉ ch := fun b u e z => by
    have q := (hf b z).1
    rw [q] at e; cases e
  refine I.step (g' := s.gens) (d' := s.drawn) (ch := ch) (fun b hb => ⟨(hf b hb).2.2.2.1, (hf b hb).2.1, (hf b hb).2.2.2.2.1, (hf b hb).2.2.2.2.2⟩) (fun b o _ _ hc e _ => k b o hc e) (fun b o _ _ hc e _ => ⟨o.slots, k b o hc e⟩)
    (fun b o _ e n => ?_) (fun b o hc e => ⟨o, k b o hc e⟩) (fun b xs e => ?_) (fun b o u e => ?_) (fun b ps e => ⟨#[], ?_⟩) (fun m hm => ?_) (fun b u e => ?_) I.bare
  · rw [upd_ne (Nat.ne_of_lt (Nat.lt_of_lt_of_le (Heap.lt_size e) hT))]; exact n
  · rw [upd_ne (ne_of_none e hn)]; exact e
  · rw [upd_ne (ne_of_none e hn)]; exact e
  · rw [upd_ne (ne_of_none e hn), e]; simp
  · obtain ⟨o, es, ep, ho, r⟩ := hm
    exact ⟨o, es, ep, k _ o (fun z => (hf _ z).2.1 rfl) ho, r⟩
  · by_cases hb : b = T
    · subst hb
      rw [upd_same] at e
      cases e
      exact new
    · rw [upd_ne hb] at e
      refine (I.hok b u e).stay (fun c v hc q => k c v ?_ q) (fun c q => by rw [upd_ne (ne_of_none q hn)]; exact q) fun c xs q => by rw [upd_ne (ne_of_none q hn)]; exact q
      rcases hc with z | z
      · rw [z]; exact nit b u e
      · exact nit c _ z

/-! ### locking a thing while a statement runs -/
end
section
variable {X : Cx}
/-! ### one iterator just laid -/
theorem pi_one {tg : Expr} {pins : List (Addr × Obj)} {σ : St} {H : Hp} {s : Shared} {R : It → Hp → Prop} {J : It} {tn : Nat → Heap → Prop} {tk : Nat} (I : Inv X pins σ H s) (o : Obj)
    (T : Turn X.prog X.w X.K tg J [s.heap.objs.size] s.heap.objs.size tn) (st : tn 0 (s.heap.push o)) (q : R J H) : PIE X pins σ tg R (.ref s.heap.objs.size) { s with heap := s.heap.push o, toks := tk } := by
  refine ⟨s.heap.objs.size, [s.heap.objs.size], tn, J, H, rfl, I.kept fun b ob e => Heap.get?_push_of_some _ e, T, st, fun b hb => ?_, q⟩
  have e : b = s.heap.objs.size := by simpa using hb
  subst e
  exact I.fpOk (Nat.le_refl _) (I.hok.fresh (Nat.le_refl _))
end

/-! ### range with a step -/
section
variable {X : Cx} {tg : Expr}
end
/-! ### reversed(list) -/
/-- the list at a (n items at the start, which the loop leaves there), from its end -/
def Itv (K : PySem.W.Frag) (a : Addr) (n : Nat) : It :=
  ⟨fun i H => i < n ∧ ∃ (xs : List V) (x : V), SqL K H a xs ∧ xs[n - 1 - i]? = some x, fun i H x H' => H' = H ∧ ∀ xs, SqL K H a xs → xs[n - 1 - i]? = some x, fun i _ => n ≤ i⟩
theorem turn_rev {P : Program} {w : World} {K : PySem.W.Frag} {tg : Expr} (a it : Addr) (n : Nat) : Turn P w K tg (Itv K a n) [it] it (fun i h => i ≤ n ∧ h.IsRevIter it a ((n : Int) - 1 - (i : Nat))) where
  mem := by simp
  obj := fun i h st b hb => by
    have e : b = it := by simpa using hb
    subst e
    obtain ⟨_, o, e, c, d⟩ := st
    exact ⟨o, e, fun v z => by rw [d] at z; cases z⟩
  keep := fun i h h' st k => ⟨st.1, st.2.at fun o e => k it (by simp) o e⟩
  item := by
    intro X hP hw hK hc i pins s σ H E I hf st hg
    subst hP hw hK
    obtain ⟨hin, xs, x, hq, hx⟩ := hg
    obtain ⟨its, rv, p, hz⟩ := I.list hq
    obtain ⟨u, hu, ru⟩ := rv.get hx
    obtain ⟨f0, f1, f2, f3, f4, f5⟩ := hf it (by simp)
    obtain ⟨_, hit⟩ := st
    have e1 : (n : Int) - 1 - ((i : Nat) : Int) = ((n - 1 - i : Nat) : Int) := by omega
    rw [e1] at hit
    refine wpAny_pyNext_rev_item hit p.isList (x := u) (by simpa using hu) fun h' st' sb => ?_
    have e2 : ((n - 1 - i : Nat) : Int) - 1 = (n : Int) - 1 - ((i + 1 : Nat) : Int) := by omega
    rw [e2] at st'
    have I1 : Inv X pins σ H { s with heap := h' } := I.turned (t' := s.toks) (fun b o hb e => (sb.2 b hb).trans e) f0 f1 f3 f4 f5
    obtain ⟨o, e, c, d⟩ := id st'
    exact ⟨u, rfl, go_of (s := { s with heap := h' }) e c d (by decide) ⟨x, H, I1, ru, ⟨rfl, fun ys hy => by rw [I.list_inj hy hq]; exact hx⟩, ⟨hin, st'⟩, fun b hb => (hf b hb).1⟩⟩
  done := by
    intro X hP hw hK hc i pins s σ H E I hf st hg
    subst hP hw hK
    obtain ⟨f0, f1, f2, f3, f4, f5⟩ := hf it (by simp)
    obtain ⟨hin, hit⟩ := st
    have hge : n ≤ i := hg
    have e1 : (n : Int) - 1 - ((i : Nat) : Int) = -1 := by omega
    rw [e1] at hit
    exact wpAny_pyNext_rev_end (I.ok.hd hc) hit fun h' eb => ⟨rfl, I.turned (t' := s.toks) (fun b o hb e => eb b o hb e) f0 f1 f3 f4 f5⟩
  self := fun A i s Q E st h => wpAny_pyIter_revIter st.2 h
def iRev (K : PySem.W.Frag) (ta : TA) : TI := fun σ H R => ta σ H fun vs H1 => ∃ (a : Addr) (xs : List V), vs = [.ref a] ∧ SqL K H1 a xs ∧ R (Itv K a xs.length) H1
section
variable {X : Cx} {tg : Expr}
theorem pi_reversed {e : Expr} {ta : TA} {p pos : Pos} (hg : Gl X "reversed") (hm : X.mg "reversed" = none) (ha : PA X [e] ta) (hs : starEach [e] X.env = [(false, eval e X.env)] := by rfl) : PI X tg (.Call (.Name "reversed" p) [e] [] pos) (iRev X.K ta) := by
  intro pins s σ H R I h
  refine Call_ (ld_blt I hg hm boot_reversed5 (PyProof.Rows.callWith_type1 (thn (ha pos pins s σ H _ I h) fun us s1 ⟨vs, H1, I1, r1, q1⟩ => ?_) hs rfl))
  obtain ⟨a, xs, e, hq, q⟩ := q1
  subst e
  cases r1 with
  | cons r rr =>
    cases rr
    cases r
    obtain ⟨its, rv, p', hz⟩ := I1.list hq
    have hl := rv.length
    have e1 : ((its.toArray.size : Nat) : Int) - 1 = (xs.length : Int) - 1 - ((0 : Nat) : Int) := by simp only [List.size_toArray]; omega
    refine call_reversed_list p'.isList (wpAny_pyIter_revIter (l := a) (i := ((its.toArray.size : Nat) : Int) - 1) ⟨_, Heap.get?_push_size _ rfl, rfl, rfl⟩ ?_)
    refine pi_one (tk := s1.toks) I1 _ (turn_rev a _ xs.length) ⟨Nat.zero_le _, ?_⟩ q
    rw [← e1]
    exact ⟨_, Heap.get?_push_size _ rfl, rfl, rfl⟩
end

/-! ### a str -/
/-! ### a dict's keys: any dict's entries -/
section
variable {prog : Program} {w : World} {A : Around} {E : Value → Shared → Prop} {s : Shared}
end

/-! ### a locked dict -/
section
variable {X : Cx} {pins : List (Addr × Obj)} {σ : St} {H : Hp} {s : Shared} {d : Addr} {o : Obj}
end

section
variable {P : Program} {w : World} {K : PySem.W.Frag} {tg : Expr} {d : Addr} {o : Obj} {es : Array DictEntry} {ep : Nat}
end

/-! ### for k in d, d.keys(), d.values(), d.items() -/
section
variable {X : Cx} {tg e : Expr} {td : TE} {apos cpos : Pos}
end

/-! ### enumerate(list) -/
/-! ### zip(list, list) -/
theorem boot_zip5 : bootBuiltins "zip" = some (.type "zip") := by decide +kernel
/-- the lists at a and b as they stand at each turn, the items in new pairs -/
def Itz (K : PySem.W.Frag) (a b : Addr) : It :=
  ⟨fun i H => ∃ (xs ys : List V) (x y : V), SqL K H a xs ∧ SqL K H b ys ∧ xs[i]? = some x ∧ ys[i]? = some y,
    fun i H v H' => ∃ T x y, v = .ref T ∧ H T = none ∧ H' = upd H T (.tup [x, y]) ∧ (∀ xs, SqL K H a xs → xs[i]? = some x) ∧ ∀ ys, SqL K H b ys → ys[i]? = some y,
    fun i H => ∃ xs ys : List V, SqL K H a xs ∧ SqL K H b ys ∧ (xs.length ≤ i ∨ ys.length ≤ i)⟩
theorem turn_zip {P : Program} {w : World} {K : PySem.W.Frag} {elts : List Expr} {kk : Nat} {tpos : Pos} {a b z TI TO i1 i2 : Addr} (D : ZipApart z TI TO i1 i2 a b) :
    Turn P w K (.Tuple elts kk tpos) (Itz K a b) [z, TI, TO, i1, i2] z (fun i h => IsZip h z TI TO .none ∧ IsPair h TI (.ref i1) (.ref i2) ∧ (∃ x y, IsPair h TO x y) ∧ h.IsListIter i1 a i ∧ h.IsListIter i2 b i) where
  mem := by simp
  obj := fun i h st c hc => by
    obtain ⟨hz, hTI, ⟨x, y, hTO⟩, ⟨o1, e1, _, d1⟩, ⟨o2, e2, _, d2⟩⟩ := st
    have e' : c = z ∨ c = TI ∨ c = TO ∨ c = i1 ∨ c = i2 := by simpa using hc
    rcases e' with q | q | q | q | q
    · rw [q]; exact ⟨_, hz, fun v q => nomatch q⟩
    · rw [q]; exact ⟨_, hTI, fun v q => nomatch q⟩
    · rw [q]; exact ⟨_, hTO, fun v q => nomatch q⟩
    · rw [q]; exact ⟨o1, e1, fun v q => by rw [d1] at q; cases q⟩
    · rw [q]; exact ⟨o2, e2, fun v q => by rw [d2] at q; cases q⟩
  keep := fun i h h' st k => by
    obtain ⟨hz, hTI, ⟨x, y, hTO⟩, h1, h2⟩ := st
    exact ⟨k z (by simp) _ hz, k TI (by simp) _ hTI, ⟨x, y, k TO (by simp) _ hTO⟩, h1.at fun o q => k i1 (by simp) o q, h2.at fun o q => k i2 (by simp) o q⟩
  item := by
    intro X hP hw hK hc i pins s σ H E I hf st hg
    subst hP hw hK
    obtain ⟨hz, hTI, ⟨x0, y0, hTO⟩, h1, h2⟩ := st
    obtain ⟨xs, ys, x, y, hqx, hqy, hx, hy⟩ := hg
    obtain ⟨its, rv, p, _⟩ := I.list hqx
    obtain ⟨its2, rv2, p2, _⟩ := I.list hqy
    obtain ⟨u, hu, ru⟩ := rv.get hx
    obtain ⟨u2, hu2, ru2⟩ := rv2.get hy
    have hzl : z < s.heap.objs.size := Heap.lt_size hz
    refine wpAny_pyNext_zip_item D hz hTI hTO h1 h2 p.isList p2.isList (x := u) (y := u2) (by simpa using hu) (by simpa using hu2) fun h' z' TO' h1' h2' hT hsz hk => ?_
    refine ⟨_, rfl, wpAny_letOwnedTupleGo_zip (s := { s with heap := h' }) z' fun h'' z'' sb => ?_⟩
    have hT2 : h''.get? s.heap.objs.size = some { cls := .type "tuple", data := .seq #[u, u2] } := (sb.2 _ (Nat.ne_of_gt hzl)).trans hT
    have new : ObjOk X.prog X.w (upd H s.heap.objs.size (.tup [x, y])) h'' s.heap.objs.size (.tup [x, y]) :=
      ⟨by show 2 ≤ sizeLine; decide, [u, u2], .cons ru (.cons ru2 .nil), ⟨_, hT2, rfl, _, rfl⟩⟩
    have I1 : Inv X pins σ (upd H s.heap.objs.size (.tup [x, y])) { s with heap := h'' } :=
      I.turnedNew (t' := s.toks) (ch := [z, TI, TO, i1, i2]) (fun c o hb q => (sb.2 c (fun q' => hb (by simp [q']))).trans (hk c o (fun q' => hb (by simp [q'])) (fun q' => hb (by simp [q'])) (fun q' => hb (by simp [q'])) (fun q' => hb (by simp [q'])) q)) hf (Nat.le_refl _) new
    refine ⟨.ref s.heap.objs.size, _, I1, rfl, ⟨_, x, y, rfl, I.hok.fresh (Nat.le_refl _), rfl, fun l hl => by rw [I.list_inj hl hqx]; exact hx, fun l hl => by rw [I.list_inj hl hqy]; exact hy⟩, ⟨z'', ?_, ⟨u, u2, ?_⟩, ?_, ?_⟩, fun c hcm => ?_⟩
    · exact (sb.2 _ D.TIz).trans (hk _ _ D.TIz D.TITO D.TIi1 D.TIi2 hTI)
    · exact (sb.2 _ D.TOz).trans TO'
    · exact h1'.at fun o q => (sb.2 _ D.i1z).trans q
    · exact h2'.at fun o q => (sb.2 _ D.i2z).trans q
    · have hlt : c < s.heap.objs.size := by
        have e' : c = z ∨ c = TI ∨ c = TO ∨ c = i1 ∨ c = i2 := by simpa using hcm
        rcases e' with q | q | q | q | q
        · rw [q]; exact hzl
        · rw [q]; exact Heap.lt_size hTI
        · rw [q]; exact Heap.lt_size hTO
        · rw [q]; obtain ⟨_, e1, _⟩ := h1; exact Heap.lt_size e1
        · rw [q]; obtain ⟨_, e2, _⟩ := h2; exact Heap.lt_size e2
      rw [upd_ne (Nat.ne_of_lt hlt)]
      exact (hf c hcm).1
  done := by
    intro X hP hw hK hc i pins s σ H E I hf st hg
    subst hP hw hK
    obtain ⟨hz, hTI, ⟨x0, y0, hTO⟩, h1, h2⟩ := st
    obtain ⟨xs, ys, hqx, hqy, hend⟩ := hg
    obtain ⟨its, rv, p, _⟩ := I.list hqx
    obtain ⟨its2, rv2, p2, _⟩ := I.list hqy
    have l1 := rv.length
    have l2 := rv2.length
    have he : its.toArray[i]? = none ∨ its2.toArray[i]? = none := by
      rcases hend with q | q
      · exact .inl (by simp; omega)
      · exact .inr (by simp; omega)
    exact wpAny_pyNext_zip_end (I.ok.hd hc) D hz hTI hTO h1 h2 p.isList p2.isList he fun h' hk => ⟨rfl, I.turnedL (t' := s.toks) (ch := [z, TI, TO, i1, i2]) (fun c o hb q =>
      hk c o (fun q' => hb (by simp [q'])) (fun q' => hb (by simp [q'])) (fun q' => hb (by simp [q'])) (fun q' => hb (by simp [q'])) q) hf⟩
  self := fun A i s Q E st h => wpAny_pyIter_zip st.1 h
def iZip (K : PySem.W.Frag) (ta : TA) : TI := fun σ H R => ta σ H fun vs H1 => ∃ a b xs ys, vs = [.ref a, .ref b] ∧ SqL K H1 a xs ∧ SqL K H1 b ys ∧ R (Itz K a b) H1
theorem pi_zip {X : Cx} {e e2 : Expr} {ta : TA} {p pos tpos : Pos} {elts : List Expr} {kk : Nat} (hg : Gl X "zip") (hm : X.mg "zip" = none) (ha : PA X [e, e2] ta)
    (hs : starEach [e, e2] X.env = (false, eval e X.env) :: starEach [e2] X.env := by rfl) (hpl : (backTo pos (starEach [e2] X.env)).any (·.1) = false := by rfl) :
    PI X (.Tuple elts kk tpos) (.Call (.Name "zip" p) [e, e2] [] pos) (iZip X.K ta) := by
  intro pins s σ H R I h
  refine Call_ (ld_blt I hg hm boot_zip5 (PyProof.Rows.callWith_type1 (thn (ha pos pins s σ H _ I h) fun us s1 ⟨vs, H1, I1, r1, q1⟩ => ?_) hs hpl))
  obtain ⟨a, b, xs, ys, ex, hqx, hqy, q⟩ := q1
  subst ex
  cases r1 with
  | cons r rr =>
    cases rr with
    | cons r' rr =>
      cases rr
      cases r
      cases r'
      obtain ⟨its, rv, p1, _⟩ := I1.list hqx
      obtain ⟨its2, rv2, p2, _⟩ := I1.list hqy
      have la : a < s1.heap.objs.size := p1.lt
      have lb : b < s1.heap.objs.size := p2.lt
      refine call_zip_2 p1.isList p2.isList fun h' hz hTI hTO h1 h2 hsz hk => wpAny_pyIter_zip hz ?_
      have I2 : Inv X pins σ H1 { s1 with heap := h' } := I1.kept (t' := s1.toks) hk
      refine ⟨s1.heap.objs.size + 4, [s1.heap.objs.size + 4, s1.heap.objs.size + 2, s1.heap.objs.size + 3, s1.heap.objs.size, s1.heap.objs.size + 1], _, _, H1, rfl, I2, turn_zip (PySem.W.ktu_apart s1.heap.objs.size a b la lb), ⟨hz, hTI, ⟨_, _, hTO⟩, h1, h2⟩, fun c hcm => ?_, q⟩
      have e' : c = s1.heap.objs.size + 4 ∨ c = s1.heap.objs.size + 2 ∨ c = s1.heap.objs.size + 3 ∨ c = s1.heap.objs.size ∨ c = s1.heap.objs.size + 1 := by simpa using hcm
      have hle : s1.heap.objs.size ≤ c := by
        rcases e' with z | z | z | z | z
        · rw [z]; exact Nat.le_add_right _ _
        · rw [z]; exact Nat.le_add_right _ _
        · rw [z]; exact Nat.le_add_right _ _
        · rw [z]; exact Nat.le_refl _
        · rw [z]; exact Nat.le_add_right _ _
      exact I1.fpOk hle (I1.hok.fresh hle)
end L2

section 
namespace Bits
open PySem PyProof.Rows

end Bits
end 

section 
namespace TL
open PySem PySem.Builtin PySem.Builtin.Str PySem.StrLaws

abbrev tl (x : Str) : List Nat := x.cps.toList
/-! ### the list functions -/
/-! ### the model's split and partition are these -/
/-! ### computing spl and par -/
/-! ### digits -/
/-! ### words: x.split() -/
end TL
end 

namespace L2
open PySem PySem.Spec PyProof.Rows

section
variable {X : Cx} {pins : List (Addr × Obj)} {σ : St} {H : Hp} {s : Shared} {Q : VK}
end

section
variable {X : Cx}

/-! ### of a text alone -/
/-! ### of a text and a text -/
end

section
variable {X : Cx} {o e : Expr} {to te : TE}
end
end L2

namespace L2
open PySem PySem.Spec PyProof.Rows

section
variable {X : Cx}
end

/-! ### slices of a text -/
end L2

namespace Att
open PySem PySem.W PySem.Calls PyProof.Rows

/-! ### the script -/
/-! ### the attachment: holds_open's last premise (the goal 'hc' behind k_head) from a wpAny of the law's body -/
/-! ### rules over ANY heap (no ledger) from facts about the written part K: the library's own take a ledger (News) for what they write -/
section
variable {prog : Program} {w : World} {A : Around} {E : Value → Shared → Prop} {s : Shared} {K : Frag}

/-! the whole heap as the ledger: makes every rule that writes through a ledger a rule over any heap -/
end
end Att

namespace L2
open PySem PySem.Spec PyProof.Rows

end L2

namespace L2
open PySem PySem.Spec PyProof.Rows

abbrev KOf {K : PySem.W.Frag} {h : Heap} (_ : K.In h) : PySem.W.Frag := K

end L2

/- THE LAST THEOREM (shape; LID, My.* are yours):
   My.Adr: a structure of the addresses that your layer names (classes, functions); My.Txt K t: a structure (Prop) of the equations over K;
   My.txt_mk : {K} {implicit addresses ..} (e1 : nsIn K mainGlobals "law" = some (some (.ref f))) (e2 : K.lookup f = some ⟨oc, od, .func (fnOf "law" "law" params body scope dV kV doc pm an cdv ct), sl⟩) (e3 : codeIn K cdv "law" = true) .. : ∃ t, My.Txt K t

(the tactic k_is has no namespace: write k_is) -/

/-! SHORT WORDS over the layer: a def of the text, its body, what a loop and a test want. -/
namespace L2
open PySem PySem.Spec PyProof.Rows

/-! ### the text by places -/
/-- the j-th statement of a class's body -/
def inClass (s : Stmt) (j : Nat) : Stmt := match s with
  | .ClassDef _ _ _ body _ _ _ _ _ _ _ => body.getD j (.Pass ⟨0, 0, 0, 0⟩)
  | _ => .Pass ⟨0, 0, 0, 0⟩
def defArgs (s : Stmt) : Arguments := match s with
  | .FunctionDef _ a _ _ _ _ _ _ _ _ => a
  | _ => { posonlyargs := [], args := [], vararg := none, kwonlyargs := [], kw_defaults := [], kwarg := none, defaults := [] }
def defBody (s : Stmt) : List Stmt := match s with
  | .FunctionDef _ _ b _ _ _ _ _ _ _ => b
  | _ => []
def defScope (s : Stmt) : Scope := match s with
  | .FunctionDef _ _ _ _ _ _ sc _ _ _ => sc
  | _ => { kind := .function, names := [], isGenerator := false, isCoroutine := false }

/-! ### no exception leaves a def -/
abbrev CX0 : CXT := fun _ _ _ _ _ _ => False
abbrev E0 : XK := fun _ _ _ => False
theorem pass0 {X : Cx} : Passes CX0 X E0 := fun _ _ _ _ _ _ _ h => h.elim

/-! ### a def (or method) of the text as it stands behind the top -/
structure Fun (K : PySem.W.Frag) (x qual : Str) (st : Stmt) (f : Addr) (fd : FuncData) : Prop where
  ex : ∃ (oc : Value) (od : Option Addr) (kV doc pm : Value) (an : Option Addr) (cdv ct : Value) (osl : Array (Option Value)),
    fd = PySem.W.fnOf x qual (defArgs st) (defBody st) (defScope st) .none kV doc pm an cdv ct ∧ K.lookup f = some ⟨oc, od, .func fd, osl⟩ ∧ PySem.W.codeIn K cdv qual = true
  kp : PySem.W.keepIn K (.ref f) = true
section
variable {P : Program} {w : World} {K : PySem.W.Frag} {mg : Str → Option Value} {base : Heap}
/-- THE RULE for a def: its body as a term of rules, and the reading of that term -/
theorem Fun.ok {x qual : Str} {st : Stmt} {f : Addr} {fd : FuncData} {N ps : List Str} {k : Nat} {sp : Sp} (F : Fun K x qual st f fd) (S : FnScope N ps (defScope st)) (len : ∀ vs H Q E, sp vs H Q E → vs.length = ps.length)
    (hbody : ∀ (cdv : Value) (A : Around) (outer : List Env) (s : Shared) (H : Hp) (vs : List V) (Q : VK) (E : XK), Room k (A.deeper (envOfC qual (defScope st) s.heap.objs.size f cdv)) → sp vs H Q E →
      ∃ t, PSs (cxOf CX0 P w K mg base N qual (defScope st) f cdv A outer s H E).nox (defBody st) t ∧ t { nx := fun _ H' => Q .non H', rt := Q } (start N vs) H) : FnOk P w K mg base CX0 (k + 1) f fd ps sp := by
  obtain ⟨oc, od, kV, doc, pm, an, cdv, ct, osl, rfl, lk, hcd⟩ := F.ex
  refine fn_of lk hcd S len fun A outer s H vs Q E hr hsp => ?_
  obtain ⟨t, h, q⟩ := hbody cdv A outer s H vs Q E hr hsp
  exact ⟨t, h.nox, q⟩
/-- how its arguments bind (no defaults): h is «fun _ _ _ _ _ _ us hl => match us, hl with | [_, _], _ => rfl», one _ a parameter -/
theorem Fun.binds {x qual : Str} {st : Stmt} {f : Addr} {fd : FuncData} {ps : List Str} (F : Fun K x qual st f fd)
    (h : ∀ (kV doc pm : Value) (an : Option Addr) (cdv ct : Value) (us : List Value), us.length = ps.length → bindArgs (PySem.W.fnOf x qual (defArgs st) (defBody st) (defScope st) .none kV doc pm an cdv ct) ⟨us, []⟩ = pure (ps.zip us)) : Binds K fd ps [] := by
  obtain ⟨oc, od, kV, doc, pm, an, cdv, ct, osl, rfl, lk, hcd⟩ := F.ex
  exact .all (h kV doc pm an cdv ct)
theorem fun_mk {x qual : Str} {st : Stmt} {f : Addr} {oc : Value} {od an : Option Addr} {osl : Array (Option Value)} {kV doc pm cdv ct : Value} (l : K.lookup f = some ⟨oc, od, .func (PySem.W.fnOf x qual (defArgs st) (defBody st) (defScope st) .none kV doc pm an cdv ct), osl⟩)
    (c : PySem.W.codeIn K cdv qual = true) (k : PySem.W.keepIn K (.ref f) = true) : Fun K x qual st f (PySem.W.fnOf x qual (defArgs st) (defBody st) (defScope st) .none kV doc pm an cdv ct) := ⟨⟨oc, od, kV, doc, pm, an, cdv, ct, osl, rfl, l, c⟩, k⟩
end
theorem small1000 {n : Nat} (h : n ≤ 1000) : n < sizeLine := Nat.lt_of_le_of_lt h (by decide)

/-! ### expressions in short: the name that stands in the i-th slot -/
section
variable {X : Cx}
theorem pv (i : Nat) {x : Str} {pos : Pos} (hN : X.N[i]? = some x := by rfl) (hv : Vis X.env.scope x := by first | exact Or.inl rfl | exact Or.inr (Or.inl rfl) | exact Or.inr (Or.inr rfl)) (hd : (x == ("__debug__" : Str)) = false := by decide)
    (hcd : (x == ("__classdict__" : Str)) = false := by decide) : PE X (.Name x pos) (tVar i) := pe_var hN hv hd hcd
end

/-! ### tests -/
theorem iteT {A B : Prop} (h : A) : if true = true then A else B := by
  rw [if_pos rfl]
  exact h
theorem ite2 {c A B : Prop} [Decidable c] (h1 : c → A) (h2 : ¬ c → B) : if c then A else B := by
  by_cases h : c
  · rw [if_pos h]
    exact h1 h
  · rw [if_neg h]
    exact h2 h
/-! ### heaps -/
/-- all that was tracked is as it was -/
def Same (H H' : Hp) : Prop := ∀ b o, H b = some o → H' b = some o
theorem Same.trans {H H1 H2 : Hp} (a : Same H H1) (b : Same H1 H2) : Same H H2 := fun c o h => b c o (a c o h)
theorem Same.free {H H' : Hp} (e : Same H H') {l : Addr} (h : H' l = Option.none) : H l = Option.none := by
  cases q : H l with
  | none => rfl
  | some o =>
    rw [e l o q] at h
    cases h
theorem Same.seq {K : PySem.W.Frag} {H H' : Hp} {a : Addr} {xs : List V} (e : Same H H') (h : SqL K H a xs) : SqL K H' a xs := by
  rcases h with (h | ⟨o, h⟩) | h
  · exact .inl (.inl (e _ _ h))
  · exact .inl (.inr ⟨o, e _ _ h⟩)
  · exact .inr h

/-! ### a dict's pairs: keys that differ -/
section
variable {κ : Type} [DecidableEq κ]
end
/-! ### lists -/
theorem at_of {xs : List V} {z : Int} {j : Nat} {v : V} (e : z = (j : Int)) (h : xs[j]? = some v) : atI xs z = some v := by
  rw [e]
  exact atI_nat h
/-- a new instance and its __init__ leave all that was tracked as it was -/
theorem Same.made {H H1 : Hp} {x dx C : Addr} (nx : H x = Option.none) (nd : H dx = Option.none) (k : ∀ b o, (upd (upd H dx (.own x)) x (.ins C dx [])) b = some o → b ≠ x → H1 b = some o) : Same H H1 := fun b o e =>
  k b o (by rw [upd_ne (ne_of_none e nx), upd_ne (ne_of_none e nd)]; exact e) (ne_of_none e nx)
end L2

section
set_option Elab.async false
set_option linter.all false
set_option maxRecDepth 100000
set_option maxHeartbeats 2000000
namespace L2
open PySem PySem.Spec PyProof.Rows
open PySem.W (WData Codec OpenSpec Well WellAll ReadsW ReadsAllW)
/-! ### an answer as data -/
mutual
/-- x stands for the datum d, lists and tuples all the way -/
inductive Dw (K : PySem.W.Frag) (H : Hp) : V → WData → Prop
  | non : Dw K H .non .none
  | bl (b : Bool) : Dw K H (.bl b) (.bool b)
  | int (i : Int) : Dw K H (.int i) (.int i)
  | str (x : Str) : Dw K H (.str x) (.str x)
  | byt (b : Array UInt8) : Dw K H (.byt b) (.bytes b.toList)
  | lst {a : Addr} {xs : List V} {ds : List WData} : SqL K H a xs → DwAll K H xs ds → Dw K H (.ref a) (.list ds)
  | tup {a : Addr} {xs : List V} {ds : List WData} : SqT K H a xs → DwAll K H xs ds → Dw K H (.ref a) (.tuple ds)
inductive DwAll (K : PySem.W.Frag) (H : Hp) : List V → List WData → Prop
  | nil : DwAll K H [] []
  | cons {v : V} {vs : List V} {d : WData} {ds : List WData} : Dw K H v d → DwAll K H vs ds → DwAll K H (v :: vs) (d :: ds)
end
theorem dw_ints {K : PySem.W.Frag} {H : Hp} : ∀ ns : List Int, DwAll K H (ns.map V.int) (ns.map WData.int)
  | [] => .nil
  | n :: r => .cons (.int n) (dw_ints r)
theorem ints_dw {K : PySem.W.Frag} {H : Hp} : ∀ (ns : List Int) (xs : List V), DwAll K H xs (ns.map WData.int) → xs = ns.map V.int
  | [], xs, h => by
    cases h
    rfl
  | n :: r, xs, h => by
    cases h with
    | cons h1 h2 =>
      cases h1
      rw [ints_dw r _ h2] <;> rfl
section
variable {P : Program} {w : World} {K : PySem.W.Frag} {H : Hp} {h : Heap} {R : PySem.W.WRecords} {cl : Str → Option Addr}
theorem sqL_at {a : Addr} {xs : List V} (hok : HOk P w H h) (KX : K.In h) (q : SqL K H a xs) : ∃ (its : List Value) (o : Obj) (n : Nat), Vals xs its ∧ h.get? a = some o ∧ o.cls = .type "list" ∧ o.data = .seq its.toArray n := by
  rcases q with q | ⟨o, its, n, e, hc, _, hd, _, hv⟩
  · obtain ⟨_, its, n, hv, e⟩ := (show ObjOk P w H h a (.lst xs) from q.ok hok)
    exact ⟨its, _, n, hv, e, rfl, rfl⟩
  · exact ⟨its.toList, o, n, hv, KX _ _ e, hc, by simp [hd]⟩
theorem sqT_at {a : Addr} {xs : List V} (hok : HOk P w H h) (KX : K.In h) (q : SqT K H a xs) : ∃ (its : List Value) (o : Obj) (n : Nat), Vals xs its ∧ h.get? a = some o ∧ o.cls = .type "tuple" ∧ o.data = .seq its.toArray n := by
  rcases q with q | ⟨o, its, n, e, hc, hd, _, hv⟩
  · obtain ⟨_, its, hv, o, e, hc, n, hd⟩ := (show ObjOk P w H h a (.tup xs) from q.ok hok)
    exact ⟨its, o, n, hv, e, hc, hd⟩
  · exact ⟨its.toList, o, n, hv, KX _ _ e, hc, by simp [hd]⟩
mutual
theorem Dw.reads (hok : HOk P w H h) (KX : K.In h) : ∀ (d : WData) (v : V) (u : Value), Dw K H v d → RelV v u → ∃ as, ReadsW R cl h u d as
  | .none, _, _, x, r => by
    cases x
    cases r
    exact ⟨_, ReadsW.none⟩
  | .bool b, _, _, x, r => by
    cases x
    cases r
    exact ⟨_, ReadsW.bool b⟩
  | .int i, _, _, x, r => by
    cases x
    obtain ⟨t, rfl⟩ := r
    exact ⟨_, ReadsW.int i t⟩
  | .str s, _, _, x, r => by
    cases x
    obtain ⟨t, rfl⟩ := r
    exact ⟨_, ReadsW.str s t⟩
  | .bytes b, _, _, x, r => by
    cases x
    obtain ⟨t, rfl⟩ := r
    exact ⟨_, ReadsW.bytes _ t⟩
  | .list ds, _, _, x, r => by
    cases x with
    | lst hs ha =>
      cases r
      obtain ⟨its, o, n, rv, ho, hc, hd⟩ := sqL_at hok KX hs
      obtain ⟨as, hr⟩ := Dw.readsAll hok KX ds _ its ha rv
      exact ⟨_, ReadsW.list ho hc hd hr⟩
  | .tuple ds, _, _, x, r => by
    cases x with
    | tup hs ha =>
      cases r
      obtain ⟨its, o, n, rv, ho, hc, hd⟩ := sqT_at hok KX hs
      obtain ⟨as, hr⟩ := Dw.readsAll hok KX ds _ its ha rv
      exact ⟨_, ReadsW.tuple ho hc hd hr⟩
  | .float _, _, _, x, _ => by cases x
  | .dict _, _, _, x, _ => by cases x
  | .bytearray _, _, _, x, _ => by cases x
  | .set _, _, _, x, _ => by cases x
  | .frozenset _, _, _, x, _ => by cases x
  | .obj _ _, _, _, x, _ => by cases x
theorem Dw.readsAll (hok : HOk P w H h) (KX : K.In h) : ∀ (ds : List WData) (vs : List V) (us : List Value), DwAll K H vs ds → Vals vs us → ∃ as, ReadsAllW R cl h us ds as
  | [], _, _, x, r => by
    cases x
    cases r
    exact ⟨_, ReadsAllW.nil⟩
  | d :: ds, _, _, x, r => by
    cases x with
    | cons h1 h2 =>
      cases r with
      | cons r1 r2 =>
        obtain ⟨as, q1⟩ := Dw.reads hok KX d _ _ h1 r1
        obtain ⟨bs, q2⟩ := Dw.readsAll hok KX ds _ _ h2 r2
        exact ⟨_, ReadsAllW.cons q1 q2⟩
end
end
/-! ### the arguments -/
mutual
/-- data that a codec tells -/
def plW : WData → Bool
  | .none => true
  | .bool _ => true
  | .int _ => true
  | .str _ => true
  | .bytes _ => true
  | .list xs => plWs xs
  | .tuple xs => plWs xs
  | _ => false
def plWs : List WData → Bool
  | [] => true
  | x :: r => plW x && plWs r
end
theorem plWs_map {α : Type} {f : α → WData} (h : ∀ a, plW (f a) = true) : ∀ l : List α, plWs (l.map f) = true
  | [] => rfl
  | x :: r => by
    show (plW (f x) && plWs (r.map f)) = true
    rw [h x, plWs_map h r] <;> rfl
theorem pl_enc : ∀ (c : Codec) (a : c.denote), plW (c.enc a) = true
  | .unit, _ => rfl
  | .bool, _ => rfl
  | .int _ _, _ => rfl
  | .nat _ _, _ => rfl
  | .u8, _ => rfl
  | .bytes _ _, _ => rfl
  | .text _ _ _ _, _ => rfl
  | .list _ _ c, a => plWs_map (fun x => pl_enc c x) a
  | .pair c d, a => by
    show (plW (c.enc a.1) && (plW (d.enc a.2) && true)) = true
    rw [pl_enc c a.1, pl_enc d a.2] <;> rfl
  | .triple c d e, a => by
    show (plW (c.enc a.1) && (plW (d.enc a.2.1) && (plW (e.enc a.2.2) && true))) = true
    rw [pl_enc c a.1, pl_enc d a.2.1, pl_enc e a.2.2] <;> rfl
  | .option c, none => rfl
  | .option c, some x => pl_enc c x
theorem pl_encAll : ∀ (cs : List Codec) (a : Codec.denoteAll cs), plWs (Codec.encAll cs a) = true
  | [], _ => rfl
  | c :: cs, a => by
    show (plW (c.enc a.1) && plWs (Codec.encAll cs a.2)) = true
    rw [pl_enc c a.1, pl_encAll cs a.2] <;> rfl
theorem weight_mem : ∀ {xs : List WData} {d : WData}, d ∈ xs → d.weight ≤ WData.weightAll xs
  | [], d, h => absurd h (by simp)
  | x :: r, d, h => by
    show d.weight ≤ x.weight + 1 + WData.weightAll r
    rcases List.mem_cons.mp h with e | m
    · rw [e]
      omega
    · have z := weight_mem m
      omega
def toV : Value → V
  | .none => .non
  | .bool b => .bl b
  | .int i _ => .int i
  | .str x _ => .str x
  | .bytes b _ => .byt b
  | .ref a => .ref a
  | _ => .non
/-- a value of the arguments, its objects among A -/
def OkU (A : List Addr) : Value → Prop
  | .none => True
  | .bool _ => True
  | .int _ _ => True
  | .str _ _ => True
  | .bytes _ _ => True
  | .ref a => a ∈ A
  | _ => False
theorem OkU.mono {A B : List Addr} (h : ∀ a ∈ A, a ∈ B) : ∀ {u : Value}, OkU A u → OkU B u := fun {u} x => by
  cases u with
  | ref a => exact h a x
  | none => trivial
  | bool b => trivial
  | int i t => trivial
  | str s t => trivial
  | bytes b t => trivial
  | _ => exact False.elim x
theorem relV_toV {A : List Addr} {u : Value} (x : OkU A u) : RelV (toV u) u := by
  cases u with
  | ref a => rfl
  | none => rfl
  | bool b => rfl
  | int i t => exact ⟨t, rfl⟩
  | str s t => exact ⟨t, rfl⟩
  | bytes b t => exact ⟨t, rfl⟩
  | _ => exact False.elim x
theorem vals_toV {A : List Addr} : ∀ {vs : List Value}, (∀ u ∈ vs, OkU A u) → Vals (vs.map toV) vs
  | [], _ => .nil
  | u :: r, h => .cons (relV_toV (h u (List.mem_cons_self ..))) (vals_toV fun x hx => h x (List.mem_cons_of_mem _ hx))
/-- an object of the arguments -/
def ArgOb (h : Heap) (A : List Addr) (a : Addr) : Prop := ∃ vs : List Value, vs.length ≤ sizeLine ∧ (∀ u ∈ vs, OkU A u) ∧
  (h.get? a = some { cls := .type "list", data := .seq vs.toArray } ∨ h.get? a = some { cls := .type "tuple", data := .seq vs.toArray })
theorem ArgOb.mono {h : Heap} {A B : List Addr} {a : Addr} (k : ∀ a ∈ A, a ∈ B) (x : ArgOb h A a) : ArgOb h B a := by
  obtain ⟨vs, h1, h2, h3⟩ := x
  exact ⟨vs, h1, fun u hu => (h2 u hu).mono k, h3⟩
theorem wellAll_len {P : Params} {h : Heap} : ∀ {vs : List Value} {ds : List WData}, WellAll P h vs ds → vs.length = ds.length
  | _, _, .nil => rfl
  | _, _, .cons _ b => by
    show _ + 1 = _ + 1
    rw [wellAll_len b]
theorem well_list {P : Params} {h : Heap} {v : Value} {ds : List WData} (x : Well P h v (.list ds)) : ∃ (a : Addr) (vs : List Value), v = .ref a ∧ h.get? a = some { cls := .type "list", data := .seq vs.toArray } ∧ WellAll P h vs ds := by
  cases x with
  | list ho hall => exact ⟨_, _, rfl, ho, hall⟩
theorem well_tuple {P : Params} {h : Heap} {v : Value} {ds : List WData} (x : Well P h v (.tuple ds)) : ∃ (a : Addr) (vs : List Value), v = .ref a ∧ h.get? a = some { cls := .type "tuple", data := .seq vs.toArray } ∧ WellAll P h vs ds := by
  cases x with
  | tuple ho hall => exact ⟨_, _, rfl, ho, hall⟩
theorem well_cons {P : Params} {h : Heap} {us : List Value} {d : WData} {ds : List WData} (x : WellAll P h us (d :: ds)) : ∃ (v : Value) (vs : List Value), us = v :: vs ∧ Well P h v d ∧ WellAll P h vs ds := by
  cases x with
  | cons a b => exact ⟨_, _, rfl, a, b⟩
theorem line_of {n : Nat} (h : n ≤ 1048576) : n ≤ sizeLine := Nat.le_trans h (by decide)
section
variable {P : Params} {h : Heap}
mutual
theorem area_one : ∀ (d : WData) (v : Value), Well P h v d → plW d = true → d.weight ≤ 1048576 → ∃ A : List Addr, OkU A v ∧ ∀ a ∈ A, ArgOb h A a
  | .none, _, x, _, _ => by
    cases x
    exact ⟨[], trivial, fun a m => absurd m (by simp)⟩
  | .bool b, _, x, _, _ => by
    cases x
    exact ⟨[], trivial, fun a m => absurd m (by simp)⟩
  | .int i, _, x, _, _ => by
    cases x
    exact ⟨[], trivial, fun a m => absurd m (by simp)⟩
  | .str s, _, x, _, _ => by
    cases x
    exact ⟨[], trivial, fun a m => absurd m (by simp)⟩
  | .bytes b, _, x, _, _ => by
    cases x
    exact ⟨[], trivial, fun a m => absurd m (by simp)⟩
  | .list ds, _, x, p, z => by
    obtain ⟨a, vs, rfl, ho, hall⟩ := well_list x
    have z2 : WData.weightAll ds ≤ 1048576 := z
    obtain ⟨A, h1, h2⟩ := area_all ds _ hall p fun d hd => Nat.le_trans (weight_mem hd) z2
    have k : ∀ b ∈ A, b ∈ a :: A := fun b hb => List.mem_cons_of_mem _ hb
    refine ⟨a :: A, List.mem_cons_self .., fun b hb => ?_⟩
    rcases List.mem_cons.mp hb with e | m
    · rw [e]
      exact ⟨vs, line_of (by rw [wellAll_len hall]; exact Nat.le_trans (PySem.W.length_le_weightAllW ds) z2), fun u hu => (h1 u hu).mono k, .inl ho⟩
    · exact (h2 b m).mono k
  | .tuple ds, _, x, p, z => by
    obtain ⟨a, vs, rfl, ho, hall⟩ := well_tuple x
    have z2 : WData.weightAll ds ≤ 1048576 := z
    obtain ⟨A, h1, h2⟩ := area_all ds _ hall p fun d hd => Nat.le_trans (weight_mem hd) z2
    have k : ∀ b ∈ A, b ∈ a :: A := fun b hb => List.mem_cons_of_mem _ hb
    refine ⟨a :: A, List.mem_cons_self .., fun b hb => ?_⟩
    rcases List.mem_cons.mp hb with e | m
    · rw [e]
      exact ⟨vs, line_of (by rw [wellAll_len hall]; exact Nat.le_trans (PySem.W.length_le_weightAllW ds) z2), fun u hu => (h1 u hu).mono k, .inr ho⟩
    · exact (h2 b m).mono k
  | .float _, _, _, p, _ => Bool.noConfusion (show false = true from p)
  | .dict _, _, _, p, _ => Bool.noConfusion (show false = true from p)
  | .bytearray _, _, _, p, _ => Bool.noConfusion (show false = true from p)
  | .set _, _, _, p, _ => Bool.noConfusion (show false = true from p)
  | .frozenset _, _, _, p, _ => Bool.noConfusion (show false = true from p)
  | .obj _ _, _, _, p, _ => Bool.noConfusion (show false = true from p)
theorem area_all : ∀ (ds : List WData) (vs : List Value), WellAll P h vs ds → plWs ds = true → (∀ d ∈ ds, d.weight ≤ 1048576) → ∃ A : List Addr, (∀ u ∈ vs, OkU A u) ∧ ∀ a ∈ A, ArgOb h A a
  | [], _, x, _, _ => by
    cases x
    exact ⟨[], fun u m => absurd m (by simp), fun a m => absurd m (by simp)⟩
  | d :: ds, _, x, p, z => by
    obtain ⟨v, vs, rfl, x1, x2⟩ := well_cons x
    have q : plW d = true ∧ plWs ds = true := Bool.and_eq_true_iff.mp p
    obtain ⟨A, a1, a2⟩ := area_one d v x1 q.1 (z d (List.mem_cons_self ..))
    obtain ⟨B, b1, b2⟩ := area_all ds vs x2 q.2 fun e he => z e (List.mem_cons_of_mem _ he)
    have kA : ∀ b ∈ A, b ∈ A ++ B := fun b hb => List.mem_append.mpr (.inl hb)
    have kB : ∀ b ∈ B, b ∈ A ++ B := fun b hb => List.mem_append.mpr (.inr hb)
    refine ⟨A ++ B, fun u hu => ?_, fun b hb => ?_⟩
    · rcases List.mem_cons.mp hu with e | m
      · rw [e]
        exact a1.mono kA
      · exact (b1 u m).mono kB
    · rcases List.mem_append.mp hb with m | m
      · exact (a2 b m).mono kA
      · exact (b2 b m).mono kB
end
end
/-- what is tracked of an argument's object -/
def hoOf (o : Obj) : Option HO := match o.data with
  | .seq vs _ => if (o.cls == Value.type "list") = true then some (.frz o (.lst (vs.toList.map toV))) else some (.frz o (.tup (vs.toList.map toV)))
  | _ => none
def argH (K : PySem.W.Frag) (h : Heap) (A : List Addr) : Hp := fun b => if b ∈ A then (if (K.lookup b).isNone = true then (h.get? b).bind hoOf else none) else none
/-- nothing is tracked but what is known to the object -/
def OnlyF (H : Hp) : Prop := ∀ b, H b = none ∨ ∃ o u, H b = some (.frz o u)
theorem hoOf_lst (vs : List Value) : hoOf { cls := .type "list", data := .seq vs.toArray } = some (.frz { cls := .type "list", data := .seq vs.toArray } (.lst (vs.map toV))) := by
  show (if (Value.type "list" == Value.type "list") = true then some (HO.frz { cls := .type "list", data := .seq vs.toArray } (.lst (vs.toArray.toList.map toV))) else some (HO.frz { cls := .type "list", data := .seq vs.toArray } (.tup (vs.toArray.toList.map toV)))) = _
  rw [if_pos (beq_self_eq_true _)]
theorem hoOf_tup (vs : List Value) : hoOf { cls := .type "tuple", data := .seq vs.toArray } = some (.frz { cls := .type "tuple", data := .seq vs.toArray } (.tup (vs.map toV))) := by
  show (if (Value.type "tuple" == Value.type "list") = true then some (HO.frz { cls := .type "tuple", data := .seq vs.toArray } (.lst (vs.toArray.toList.map toV))) else some (HO.frz { cls := .type "tuple", data := .seq vs.toArray } (.tup (vs.toArray.toList.map toV)))) = _
  rw [if_neg (by decide)]
section
variable {P : Program} {w : World} {K : PySem.W.Frag} {h : Heap} {A : List Addr}
theorem argH_at {b : Addr} {o : Obj} (hb : b ∈ A) (hk : K.lookup b = none) (e : h.get? b = some o) : argH K h A b = hoOf o := by
  unfold argH
  rw [if_pos hb, hk, if_pos (show (none : Option Obj).isNone = true from rfl), e] <;> rfl
theorem of_argH {b : Addr} {u : HO} (q : argH K h A b = some u) : b ∈ A ∧ K.lookup b = none := by
  unfold argH at q
  by_cases hb : b ∈ A
  · rw [if_pos hb] at q
    cases hk : K.lookup b with
    | none => exact ⟨hb, rfl⟩
    | some o =>
      rw [hk, if_neg (by simp)] at q
      cases q
  · rw [if_neg hb] at q
    cases q
/-- what stands tracked -/
theorem argH_is (ar : ∀ a ∈ A, ArgOb h A a) {b : Addr} {u : HO} (q : argH K h A b = some u) : K.lookup b = none ∧ ∃ vs : List Value, vs.length ≤ sizeLine ∧ (∀ u ∈ vs, OkU A u) ∧
    ((h.get? b = some { cls := .type "list", data := .seq vs.toArray } ∧ u = .frz { cls := .type "list", data := .seq vs.toArray } (.lst (vs.map toV))) ∨
     (h.get? b = some { cls := .type "tuple", data := .seq vs.toArray } ∧ u = .frz { cls := .type "tuple", data := .seq vs.toArray } (.tup (vs.map toV)))) := by
  obtain ⟨hb, hk⟩ := of_argH q
  obtain ⟨vs, h1, h2, h3⟩ := ar b hb
  refine ⟨hk, vs, h1, h2, ?_⟩
  rcases h3 with e | e
  · rw [argH_at hb hk e, hoOf_lst] at q
    exact .inl ⟨e, (Option.some.inj q).symm⟩
  · rw [argH_at hb hk e, hoOf_tup] at q
    exact .inr ⟨e, (Option.some.inj q).symm⟩
theorem argH_only (ar : ∀ a ∈ A, ArgOb h A a) : OnlyF (argH K h A) := fun b => by
  cases q : argH K h A b with
  | none => exact .inl rfl
  | some u =>
    obtain ⟨_, vs, _, _, ⟨_, e⟩ | ⟨_, e⟩⟩ := argH_is ar q
    · exact .inr ⟨_, _, by rw [e]⟩
    · exact .inr ⟨_, _, by rw [e]⟩
theorem argH_ok (ar : ∀ a ∈ A, ArgOb h A a) : HOk P w (argH K h A) h := fun b u q => by
  obtain ⟨_, vs, h1, h2, ⟨e, rfl⟩ | ⟨e, rfl⟩⟩ := argH_is ar q
  · exact ⟨e, by rw [List.length_map]; exact h1, vs, _, vals_toV h2, e⟩
  · exact ⟨e, by rw [List.length_map]; exact h1, vs, vals_toV h2, _, e, rfl, _, rfl⟩
theorem seq_inj {c c' : Value} {vs us : List Value} (e : (some { cls := c, data := .seq vs.toArray } : Option Obj) = some { cls := c', data := .seq us.toArray }) : c = c' ∧ vs = us := by
  have e1 := Option.some.inj e
  have e2 : c = c' := congrArg Obj.cls e1
  have e3 : Data.seq vs.toArray = Data.seq us.toArray := congrArg Obj.data e1
  injection e3 with e4
  refine ⟨e2, ?_⟩
  have e5 := congrArg Array.toList e4
  simpa using e5
/-- a list argument -/
theorem argL (KX : K.In h) (ar : ∀ a ∈ A, ArgOb h A a) {a : Addr} {vs : List Value} (ha : a ∈ A) (e : h.get? a = some { cls := .type "list", data := .seq vs.toArray }) : (∀ u ∈ vs, OkU A u) ∧ SqL K (argH K h A) a (vs.map toV) := by
  obtain ⟨us, h1, h2, h3⟩ := ar a ha
  have hu : us = vs := by
    rcases h3 with q | q
    · rw [e] at q
      exact (seq_inj q).2.symm
    · rw [e] at q
      exact absurd (Value.type.inj (seq_inj q).1) (by decide)
  subst hu
  refine ⟨h2, ?_⟩
  cases hk : K.lookup a with
  | none => exact .inl (.inr ⟨_, by rw [argH_at ha hk e, hoOf_lst]⟩)
  | some o =>
    have e2 := KX a o hk
    rw [e] at e2
    obtain rfl := Option.some.inj e2
    exact .inr ⟨_, us.toArray, _, hk, rfl, rfl, rfl, by rw [List.size_toArray]; exact h1, by simpa using vals_toV h2⟩
theorem argT (KX : K.In h) (ar : ∀ a ∈ A, ArgOb h A a) {a : Addr} {vs : List Value} (ha : a ∈ A) (e : h.get? a = some { cls := .type "tuple", data := .seq vs.toArray }) : (∀ u ∈ vs, OkU A u) ∧ SqT K (argH K h A) a (vs.map toV) := by
  obtain ⟨us, h1, h2, h3⟩ := ar a ha
  have hu : us = vs := by
    rcases h3 with q | q
    · rw [e] at q
      exact absurd (Value.type.inj (seq_inj q).1) (by decide)
    · rw [e] at q
      exact (seq_inj q).2.symm
  subst hu
  refine ⟨h2, ?_⟩
  cases hk : K.lookup a with
  | none => exact .inl (.inr ⟨_, by rw [argH_at ha hk e, hoOf_tup]⟩)
  | some o =>
    have e2 := KX a o hk
    rw [e] at e2
    obtain rfl := Option.some.inj e2
    exact .inr ⟨_, us.toArray, _, hk, rfl, rfl, by rw [List.size_toArray]; exact h1, by simpa using vals_toV h2⟩
mutual
theorem dw_one {Pm : Params} (KX : K.In h) (ar : ∀ a ∈ A, ArgOb h A a) : ∀ (d : WData) (v : Value), Well Pm h v d → plW d = true → OkU A v → Dw K (argH K h A) (toV v) d
  | .none, _, x, _, _ => by
    cases x
    exact .non
  | .bool b, _, x, _, _ => by
    cases x
    exact .bl b
  | .int i, _, x, _, _ => by
    cases x
    exact .int i
  | .str s, _, x, _, _ => by
    cases x
    exact .str s
  | .bytes b, _, x, _, _ => by
    cases x
    have z := Dw.byt (K := K) (H := argH K h A) b.toArray
    exact z
  | .list ds, _, x, p, hu => by
    obtain ⟨a, vs, rfl, ho, hall⟩ := well_list x
    obtain ⟨h2, hs⟩ := argL KX ar hu ho
    exact .lst hs (dw_all KX ar ds _ hall p h2)
  | .tuple ds, _, x, p, hu => by
    obtain ⟨a, vs, rfl, ho, hall⟩ := well_tuple x
    obtain ⟨h2, hs⟩ := argT KX ar hu ho
    exact .tup hs (dw_all KX ar ds _ hall p h2)
  | .float _, _, _, p, _ => Bool.noConfusion (show false = true from p)
  | .dict _, _, _, p, _ => Bool.noConfusion (show false = true from p)
  | .bytearray _, _, _, p, _ => Bool.noConfusion (show false = true from p)
  | .set _, _, _, p, _ => Bool.noConfusion (show false = true from p)
  | .frozenset _, _, _, p, _ => Bool.noConfusion (show false = true from p)
  | .obj _ _, _, _, p, _ => Bool.noConfusion (show false = true from p)
theorem dw_all {Pm : Params} (KX : K.In h) (ar : ∀ a ∈ A, ArgOb h A a) : ∀ (ds : List WData) (vs : List Value), WellAll Pm h vs ds → plWs ds = true → (∀ u ∈ vs, OkU A u) → DwAll K (argH K h A) (vs.map toV) ds
  | [], _, x, _, _ => by
    cases x
    exact .nil
  | d :: ds, _, x, p, hu => by
    obtain ⟨v, vs, rfl, x1, x2⟩ := well_cons x
    have q : plW d = true ∧ plWs ds = true := Bool.and_eq_true_iff.mp p
    exact .cons (dw_one KX ar d v x1 q.1 (hu _ (List.mem_cons_self ..))) (dw_all KX ar ds vs x2 q.2 fun u m => hu u (List.mem_cons_of_mem _ m))
end
end
/-! ### the call -/
theorem spec_call {P : Program} {w : World} {K : PySem.W.Frag} {mg mb : Str → Option Value} {CX : CXT} {k : Nat} {fa : Addr} {fd : FuncData} {ps : List Str} {sp : Sp} {s₁ : Shared} {vals : List Value} {ds : List WData} {R : PySem.W.WRecords} {cl : Str → Option Addr} {d0 : WData}
    (KX : K.In s₁.heap) (hns : s₁.heap.Ns mainGlobals mg) (hb : s₁.heap.Ns builtinsNs mb) (hbb : ∀ x : Str, x ≠ "__name__" → mb x = bootBuiltins x) (hlim : s₁.heap.NoLimit) (hg : s₁.gens = #[])
    (hwl : WellAll w.params s₁.heap vals ds) (hpl : plWs ds = true) (hwt : ∀ d ∈ ds, d.weight ≤ 1048576) (hr : Room k callerA)
    (F : ∀ base : Heap, K.In base → base.Ns mainGlobals mg → FnOk P w K mg base CX k fa fd ps sp) (hbind : ∀ (s : Shared) (us : List Value), us.length = ps.length → BindsTo s fd ⟨us, []⟩ (ps.zip us)) (hlen : ds.length = ps.length)
    (hsp : ∀ (H : Hp) (xs : List V), OnlyF H → DwAll K H xs ds → sp xs H (fun v H' => Dw K H' v d0) fun _ _ _ => False)
    (hCX : ∀ H e s', CX [] H s₁ (fun _ _ _ => False) e s' → False) :
    codeAny (model P w) callerA (.call (.ref fa) ⟨vals, []⟩) (fun r s' => ∃ u as, r = .ok (.ret u) ∧ ReadsW R cl s'.heap u d0 as ∧ OldK s₁.heap s'.heap ∧ s'.os = s₁.os ∧ AllBare s'.gens) s₁ := by
  obtain ⟨A, ho, ar⟩ := area_all ds vals hwl hpl hwt
  have hO : OnlyF (argH K s₁.heap A) := argH_only ar
  have hok : HOk P w (argH K s₁.heap A) s₁.heap := argH_ok ar
  have hS := dw_all KX ar ds vals hwl hpl ho
  have hV := vals_toV ho
  have hK : ∀ b u, argH K s₁.heap A b = some u → K.lookup b = none := fun b u q => (argH_is ar q).1
  have noA : ∀ {b : Addr} {o : Obj} {es : Array DictEntry} {ep : Nat}, s₁.heap.get? b = some o → o.data = .dict es ep → argH K s₁.heap A b = none := fun {b o es ep} e d => by
    cases q : argH K s₁.heap A b with
    | none => rfl
    | some u =>
      obtain ⟨_, vs, _, _, ⟨e2, _⟩ | ⟨e2, _⟩⟩ := argH_is ar q
      · rw [e2] at e
        cases e
        have d' : Data.seq vs.toArray _ = Data.dict es ep := d
        cases d'
      · rw [e2] at e
        cases e
        have d' : Data.seq vs.toArray _ = Data.dict es ep := d
        cases d'
  generalize argH K s₁.heap A = H at hO hok hS hK noA
  have base_of : ∀ {b : Addr} {o : Obj}, s₁.heap.get? b = some o → H b = none → (hidT s₁.heap H).get? b = some o := fun e n => hidT_get e n
  have nsK : ∀ {b : Addr} {m : Str → Option Value}, s₁.heap.Ns b m → (hidT s₁.heap H).Ns b m := fun {b m} ⟨o, es, ep, e, d, r⟩ => ⟨o, es, ep, base_of e (noA e d), d, r⟩
  have nK : ∀ b o, K.lookup b = some o → H b = none := fun b o e => by
    cases q : H b with
    | none => rfl
    | some u =>
      rw [hK b u q] at e
      cases e
  have hKb : K.In (hidT s₁.heap H) := fun b o e => base_of (KX b o e) (nK b o e)
  have hM : Mod K mg (hidT s₁.heap H) := ⟨hKb, nsK hns, ⟨mb, nsK hb, hbb⟩, let ⟨mc, h1, h2⟩ := hlim; ⟨mc, nsK h1, h2⟩⟩
  have e0 : Env0 P w K mg (hidT s₁.heap H) callerA [] s₁ H := ⟨rfl, hM, fun b o e => of_hidT e, Nat.le_of_eq (hidT_size _ _), trivial, fun b hb => absurd (show b ∈ ([] : List Addr) from hb) (by simp), hok, .of_eq hg⟩
  have hl : vals.length = ps.length := by rw [wellAll_len hwl]; exact hlen
  refine codeAny_mono ((F _ hKb (nsK hns)).run callerA [] s₁ H ⟨vals, []⟩ vals (vals.map toV) _ _ hr e0 (hbind s₁ vals hl) hV (hsp H _ hO hS)) fun r s' x => ?_
  cases r with
  | error e => exact (hCX H e s' x).elim
  | ok fl =>
    cases fl with
    | next => exact False.elim x
    | brk => exact False.elim x
    | cont => exact False.elim x
    | ret u =>
      obtain ⟨v, H', os, bare, un, hok', r', q⟩ := x
      have kept : ∀ b o, s₁.heap.get? b = some o → s'.heap.get? b = some o := fun b o e => by
        cases q2 : H b with
        | none => exact un.keep b o e q2 (by intro z; exact absurd (show b ∈ ([] : List Addr) from z) (by simp)) (by simp)
        | some u2 =>
          rcases hO b with z | ⟨ob, u3, z⟩
          · rw [q2] at z
            cases z
          · have z2 := un.frzs b ob _ z
            obtain ⟨e1, _⟩ := hok b _ z
            obtain ⟨e2, _⟩ := hok' b _ z2
            rw [e] at e1
            cases e1
            exact e2
      have KX' : K.In s'.heap := fun b o e => kept b o (KX b o e)
      obtain ⟨as, hrd⟩ := Dw.reads (R := R) (cl := cl) hok' KX' d0 v u q r'
      exact ⟨u, as, rfl, hrd, OldK.of_keep kept, os, bare⟩
/-! ### the row -/
theorem layable_weight {ds : List WData} (h : WData.layableAll ds = true) : ∀ d ∈ ds, d.weight ≤ 1048576 := fun d hd =>
  (PySem.W.layableW_iff.mp (List.all_eq_true.mp h d hd)).2.2
theorem encAll_len : ∀ (cs : List Codec) (a : Codec.denoteAll cs), (Codec.encAll cs a).length = cs.length
  | [], _ => rfl
  | c :: cs, a => by
    show (Codec.encAll cs a.2).length + 1 = cs.length + 1
    rw [encAll_len cs a.2]
/-- the goal that k_headS leaves (case hc), from the promise of the row's def: whatever the arguments that the codecs let and the row asks for, the def gives what stands for enc (f ..) -/
theorem walk_spec {r : OpenSpec} {k : Nat} {q : Program} {loose : List Str} {XP : (Str → Option Value) → Heap → Prop} {YP : World → Heap → Prop} {d : DefRec} {K : Params → PySem.W.Frag} {CX : World → CXT} {ps : List Str} {sp : World → Sp}
    (hwell : r.wellSaid = true) (hdf : d.params.defaults = []) (hlen : r.args.length = ps.length) (hr : Room k callerA)
    (hY : ∀ (w : World) (h : Heap), YP w h → (K w.params).In h)
    (F : ∀ (w : World) (mg : Str → Option Value) (fa : Addr) (h : Heap), YP w h → (K w.params).In h → h.Ns mainGlobals mg → mg d.name = some (.ref fa) →
      ∃ fd : FuncData, (∀ (s : Shared) (us : List Value), us.length = ps.length → BindsTo s fd ⟨us, []⟩ (ps.zip us)) ∧
        ∀ base : Heap, (K w.params).In base → base.Ns mainGlobals mg → FnOk r.prog w (K w.params) mg base (CX w) k fa fd ps (sp w))
    (hsp : ∀ (w : World) (H : Hp) (xs : List V) (a : Codec.denoteAll r.args), OnlyF H → Codec.withinAll r.args a = true → Codec.app r.args r.asked a = true → DwAll (K w.params) H xs (Codec.encAll r.args a) →
      sp w xs H (fun v H' => Dw (K w.params) H' v (r.ret.enc (Codec.app r.args r.f a))) fun _ _ _ => False)
    (hCX : ∀ (w : World) (H : Hp) (s : Shared) (e : Value) (s' : Shared), CX w [] H s (fun _ _ _ => False) e s' → False) :
    PySem.W.WalkOS q loose XP YP r d [] (fun f vs => PySem.call f vs) := by
  intro w s_0 s₁ mg mb G Y fa o pm cd doc dV kV ho hd hcd hD hmg hg args vals as hpre hlay hrd hwl hlo
  obtain ⟨a, e1, e2⟩ := PySem.W.os_pre_some hpre
  obtain ⟨e3, hwi⟩ := Codec.encAll_of_decAll r.args args a e1
  subst e3
  have KX := hY w _ Y
  obtain ⟨fd, hb, hF⟩ := F w mg fa _ Y KX G.T.g hmg
  refine PySem.W.enter_call (codeAny_mono (spec_call (R := []) (cl := classAt s_0.heap) (d0 := r.ret.enc (Codec.app r.args r.f a)) KX G.T.g G.T.b G.T.builtins G.T.nolimit hg hwl (pl_encAll _ _) (layable_weight hlay) hr hF hb (by rw [encAll_len]; exact hlen)
    (fun H xs hO hS => hsp w H xs a hO hwi e2 hS) fun H e s' => hCX w H s₁ e s') fun r' s' hq => ?_)
  obtain ⟨u, as', rfl, h1, h2, h3, h4⟩ := hq
  exact ⟨.inl ⟨u, _, as', rfl, fun _ => rfl, h1, (OpenSpec.post_iff hwell hwi _ _).mpr rfl, fun z => Bool.noConfusion (show false = true from z)⟩, h2, h3, h4⟩
/-- the same where the promise hangs on the written part alone -/
theorem walk_specK {r : OpenSpec} {k : Nat} {q : Program} {loose : List Str} {XP : (Str → Option Value) → Heap → Prop} {YP : World → Heap → Prop} {d : DefRec} {K : Params → PySem.W.Frag} {CX : CXT} {ps : List Str} {sp : PySem.W.Frag → Sp}
    (hwell : r.wellSaid = true) (hdf : d.params.defaults = []) (hlen : r.args.length = ps.length) (hr : Room k callerA)
    (hY : ∀ (w : World) (h : Heap), YP w h → (K w.params).In h)
    (F : ∀ (w : World) (mg : Str → Option Value) (fa : Addr) (h : Heap), YP w h → (K w.params).In h → h.Ns mainGlobals mg → mg d.name = some (.ref fa) →
      ∃ fd : FuncData, (∀ (s : Shared) (us : List Value), us.length = ps.length → BindsTo s fd ⟨us, []⟩ (ps.zip us)) ∧
        ∀ base : Heap, (K w.params).In base → base.Ns mainGlobals mg → FnOk r.prog w (K w.params) mg base CX k fa fd ps (sp (K w.params)))
    (hsp : ∀ (K : PySem.W.Frag) (H : Hp) (xs : List V) (a : Codec.denoteAll r.args), OnlyF H → Codec.withinAll r.args a = true → Codec.app r.args r.asked a = true → DwAll K H xs (Codec.encAll r.args a) →
      sp K xs H (fun v H' => Dw K H' v (r.ret.enc (Codec.app r.args r.f a))) fun _ _ _ => False)
    (hCX : ∀ (H : Hp) (s : Shared) (e : Value) (s' : Shared), CX [] H s (fun _ _ _ => False) e s' → False) :
    PySem.W.WalkOS q loose XP YP r d [] (fun f vs => PySem.call f vs) :=
  walk_spec (K := K) (CX := fun _ => CX) (sp := fun w => sp (K w.params)) hwell hdf hlen hr hY F (fun w H xs a h1 h2 h3 h4 => hsp (K w.params) H xs a h1 h2 h3 h4) fun _ H s e s' => hCX H s e s'
end L2
end

end
section
set_option linter.all false
namespace Uwm
open Uw79

theorem snocInd {α : Type} {P : List α → Prop} (h0 : P []) (h1 : ∀ l a, P l → P (l ++ [a])) : ∀ l, P l := by
  have key : ∀ l : List α, P l.reverse := by
    intro l
    induction l with
    | nil => exact h0
    | cons a l ih => rw [List.reverse_cons]; exact h1 _ _ ih
  intro l
  have := key l.reverse
  rwa [List.reverse_reverse] at this

/-- the heap behind a share that goes -/
def nxt (s : Share) (x : Nat) : Nat := (s.p - s.t) * ((x - s.r) / s.p)

/-- the night goes with x -/
def Go : Night → Nat → Prop
  | [], _ => True
  | s :: l, x => x % s.p = s.r ∧ Go l (nxt s x)

def rst : Night → Nat → Nat
  | [], x => x
  | s :: l, x => rst l (nxt s x)

theorem goes_len_le : ∀ (l : Night) (x : Nat), (goes l x).length ≤ l.length
  | [], _ => Nat.le_refl _
  | s :: l, x => by
    unfold goes
    split
    · simp only [List.length_cons]
      exact Nat.succ_le_succ (goes_len_le l _)
    · exact Nat.zero_le _

theorem allGo_iff : ∀ (l : Night) (x : Nat), allGo l x = true ↔ Go l x
  | [], _ => by simp [allGo, goes, Go]
  | s :: l, x => by
    have ih := allGo_iff l (nxt s x)
    unfold Go
    unfold allGo at ih ⊢
    unfold goes
    by_cases h : x % s.p = s.r
    · rw [if_pos h]
      simp only [List.length_cons]
      unfold nxt at ih ⊢
      constructor
      · intro q
        exact ⟨h, ih.mp (by simpa using q)⟩
      · intro q
        have := ih.mpr q.2
        simpa using this
    · rw [if_neg h]
      constructor
      · intro q; simp at q
      · intro q; exact absurd q.1 h

theorem rest_eq : ∀ (l : Night) (x : Nat), Go l x → rest l x = rst l x
  | [], x, _ => rfl
  | s :: l, x, h => by
    have ih := rest_eq l (nxt s x) h.2
    unfold rest at ih ⊢
    unfold goes rst
    rw [if_pos h.1, ← ih]
    unfold nxt
    simp only [List.getLastD_cons]

theorem go_snoc : ∀ (l : Night) (s : Share) (x : Nat), Go (l ++ [s]) x ↔ Go l x ∧ rst l x % s.p = s.r
  | [], s, x => by simp [Go, rst]
  | a :: l, s, x => by
    have ih := go_snoc l s (nxt a x)
    simp only [List.cons_append, Go, rst, ih, and_assoc]

theorem rst_snoc : ∀ (l : Night) (s : Share) (x : Nat), rst (l ++ [s]) x = nxt s (rst l x)
  | [], s, x => rfl
  | a :: l, s, x => by
    simp only [List.cons_append, rst]
    exact rst_snoc l s _

/-- shares as the document has them -/
def GoodS (s : Share) : Prop := 2 ≤ s.p ∧ s.p ≤ 9 ∧ s.r < s.p ∧ 1 ≤ s.t ∧ s.t ≤ s.p
def Good (l : Night) : Prop := ∀ s ∈ l, GoodS s

theorem gcd_mul {d p : Nat} : ∃ d', d * (p / Nat.gcd d p) = d' * p := by
  have hg : Nat.gcd d p ∣ d := Nat.gcd_dvd_left d p
  have hgp : Nat.gcd d p ∣ p := Nat.gcd_dvd_right d p
  generalize Nat.gcd d p = g at *
  obtain ⟨d', rfl⟩ := hg
  exact ⟨d', by rw [Nat.mul_comm g d', Nat.mul_assoc, Nat.mul_div_cancel' hgp]⟩

/-! the numbers k with (c + d * k) % p = r -/
theorem lin_mod {c d p k m : Nat} (hm : p / Nat.gcd d p ∣ m) (hp : 0 < p) : (c + d * (k + m)) % p = (c + d * k) % p := by
  obtain ⟨q, rfl⟩ := hm
  obtain ⟨d', e⟩ := gcd_mul (d := d) (p := p)
  have : c + d * (k + p / Nat.gcd d p * q) = (c + d * k) + p * (d' * q) := by
    rw [Nat.mul_add, ← Nat.mul_assoc, e, Nat.add_assoc, Nat.mul_comm d' p, Nat.mul_assoc]
  rw [this, Nat.add_mul_mod_self_left]

theorem lin_back {c d p k m : Nat} (hp : 0 < p) (h : (c + d * (k + m)) % p = (c + d * k) % p) : p / Nat.gcd d p ∣ m := by
  have h1 : p ∣ d * m := by
    have e : c + d * (k + m) = (c + d * k) + d * m := by rw [Nat.mul_add, Nat.add_assoc]
    rw [e] at h
    have := Nat.sub_mod_eq_zero_of_mod_eq h
    rw [Nat.add_sub_cancel_left] at this
    exact Nat.dvd_of_mod_eq_zero this
  have g0 : 0 < Nat.gcd d p := Nat.gcd_pos_of_pos_right d hp
  have hgp : Nat.gcd d p ∣ p := Nat.gcd_dvd_right d p
  have hgd : Nat.gcd d p ∣ d := Nat.gcd_dvd_left d p
  have co : Nat.Coprime (p / Nat.gcd d p) (d / Nat.gcd d p) := by
    have := Nat.coprime_div_gcd_div_gcd (m := d) (n := p) g0
    exact this.symm
  refine co.dvd_of_dvd_mul_left (n := m) ?_
  have e1 : d * m = Nat.gcd d p * ((d / Nat.gcd d p) * m) := by rw [← Nat.mul_assoc, Nat.mul_div_cancel' hgd]
  have e2 : p = Nat.gcd d p * (p / Nat.gcd d p) := (Nat.mul_div_cancel' hgp).symm
  rw [e1] at h1
  have h1' : Nat.gcd d p * (p / Nat.gcd d p) ∣ Nat.gcd d p * ((d / Nat.gcd d p) * m) := by rw [← e2]; exact h1
  exact Nat.dvd_of_mul_dvd_mul_left g0 h1'

theorem lin_red {c d p k : Nat} : (c + d * k) % p = (c + d * (k % p)) % p := by
  have e : d * k = d * (k % p) + p * (d * (k / p)) := by
    conv => lhs; rw [← Nat.mod_add_div k p]
    rw [Nat.mul_add, ← Nat.mul_assoc, ← Nat.mul_assoc, Nat.mul_comm d p]
  rw [e, ← Nat.add_assoc, Nat.add_mul_mod_self_left]

/-- what the four numbers of a night are -/
structure Inv (l : Night) (h : Heaps) : Prop where
  pos : 0 < h.step
  go : ∀ x, Go l x ↔ ∃ k, x = h.first + h.step * k
  rst : ∀ k, rst l (h.first + h.step * k) = h.rest + h.more * k

theorem narrowed_some {h h' : Heaps} {s : Share} (e : narrowed h s = some h') : ∃ k, k < s.p ∧ (h.rest + h.more * k) % s.p = s.r ∧ (∀ k', k' < k → (h.rest + h.more * k') % s.p ≠ s.r) ∧
    h' = ⟨h.first + h.step * k, h.step * (s.p / Nat.gcd h.more s.p), (s.p - s.t) * ((h.rest + h.more * k - s.r) / s.p), (s.p - s.t) * (h.more * (s.p / Nat.gcd h.more s.p) / s.p)⟩ := by
  unfold narrowed at e
  rw [Option.map_eq_some_iff] at e
  obtain ⟨k, hk, he⟩ := e
  rw [List.find?_range_eq_some] at hk
  obtain ⟨h1, h2, h3⟩ := hk
  refine ⟨k, by simpa using h2, by simpa using h1, fun k' hk' => ?_, he.symm⟩
  have := h3 k' hk'
  simpa using this

theorem narrowed_none {h : Heaps} {s : Share} (e : narrowed h s = none) : ∀ k, k < s.p → (h.rest + h.more * k) % s.p ≠ s.r := by
  unfold narrowed at e
  rw [Option.map_eq_none_iff, List.find?_eq_none] at e
  intro k hk
  have := e k (List.mem_range.mpr hk)
  simpa using this

theorem inv_snoc {l : Night} {h h' : Heaps} {s : Share} (hs : GoodS s) (I : Inv l h) (e : narrowed h s = some h') : Inv (l ++ [s]) h' := by
  obtain ⟨k0, hk0, hr, hmin, rfl⟩ := narrowed_some e
  have hp : 0 < s.p := by have := hs.1; omega
  have g0 : 0 < Nat.gcd h.more s.p := Nat.gcd_pos_of_pos_right _ hp
  have hgp : Nat.gcd h.more s.p ∣ s.p := Nat.gcd_dvd_right _ _
  have j0 : 0 < s.p / Nat.gcd h.more s.p := Nat.div_pos (Nat.le_of_dvd hp hgp) g0
  have step' : ∀ k, (h.rest + h.more * k) % s.p = s.r ↔ ∃ m, k = k0 + (s.p / Nat.gcd h.more s.p) * m := by
    intro k
    constructor
    · intro q
      by_cases hlt : k < k0
      · exact absurd q (hmin k hlt)
      · obtain ⟨m, rfl⟩ : ∃ m, k = k0 + m := ⟨k - k0, by omega⟩
        obtain ⟨m', rfl⟩ := lin_back (c := h.rest) (k := k0) hp (q.trans hr.symm)
        exact ⟨m', rfl⟩
    · rintro ⟨m, rfl⟩
      rw [lin_mod (Nat.dvd_mul_right _ _) hp]
      exact hr
  refine ⟨Nat.mul_pos I.pos j0, fun x => ?_, fun k => ?_⟩
  · rw [go_snoc]
    constructor
    · rintro ⟨h1, h2⟩
      obtain ⟨k, rfl⟩ := (I.go x).mp h1
      rw [I.rst] at h2
      obtain ⟨m, rfl⟩ := (step' k).mp h2
      exact ⟨m, by rw [Nat.mul_add, Nat.add_assoc, Nat.mul_assoc]⟩
    · rintro ⟨m, rfl⟩
      have ex : h.first + h.step * k0 + h.step * (s.p / Nat.gcd h.more s.p) * m = h.first + h.step * (k0 + (s.p / Nat.gcd h.more s.p) * m) := by
        rw [Nat.mul_add, Nat.add_assoc, Nat.mul_assoc]
      show Go l (h.first + h.step * k0 + h.step * (s.p / Nat.gcd h.more s.p) * m) ∧ Uwm.rst l (h.first + h.step * k0 + h.step * (s.p / Nat.gcd h.more s.p) * m) % s.p = s.r
      rw [ex]
      exact ⟨(I.go _).mpr ⟨_, rfl⟩, by rw [I.rst]; exact (step' _).mpr ⟨m, rfl⟩⟩
  · have ex : h.first + h.step * k0 + h.step * (s.p / Nat.gcd h.more s.p) * k = h.first + h.step * (k0 + (s.p / Nat.gcd h.more s.p) * k) := by
      rw [Nat.mul_add, Nat.add_assoc, Nat.mul_assoc]
    show Uwm.rst (l ++ [s]) (h.first + h.step * k0 + h.step * (s.p / Nat.gcd h.more s.p) * k) = (s.p - s.t) * ((h.rest + h.more * k0 - s.r) / s.p) + (s.p - s.t) * (h.more * (s.p / Nat.gcd h.more s.p) / s.p) * k
    rw [ex, rst_snoc, I.rst]
    unfold nxt
    rw [Nat.mul_assoc, ← Nat.mul_add]
    congr 1
    obtain ⟨d', e2⟩ := gcd_mul (d := h.more) (p := s.p)
    rw [e2, Nat.mul_div_cancel _ hp]
    have e3 : h.rest + h.more * (k0 + s.p / Nat.gcd h.more s.p * k) - s.r = (h.rest + h.more * k0 - s.r) + s.p * (d' * k) := by
      have le : s.r ≤ h.rest + h.more * k0 := by
        have := Nat.mod_le (h.rest + h.more * k0) s.p
        omega
      rw [Nat.mul_add, ← Nat.mul_assoc h.more, e2, Nat.mul_comm d' s.p, Nat.mul_assoc]
      omega
    rw [e3, Nat.add_mul_div_left _ _ hp]

theorem heaps_snoc (l : Night) (s : Share) : heaps (l ++ [s]) = (heaps l).bind fun h => narrowed h s := by
  unfold heaps
  rw [List.foldl_append]
  rfl

theorem good_snoc {l : Night} {s : Share} (h : Good (l ++ [s])) : Good l ∧ GoodS s :=
  ⟨fun a ha => h a (List.mem_append_left _ ha), h s (List.mem_append_right _ (List.mem_singleton.mpr rfl))⟩

theorem heaps_inv : ∀ (l : Night), Good l → (∀ h, heaps l = some h → Inv l h) ∧ (heaps l = none → ∀ x, ¬ Go l x) := by
  refine snocInd ?_ ?_
  · intro _
    refine ⟨fun h e => ?_, fun e => ?_⟩
    · have : h = whole := (Option.some.inj e).symm
      subst this
      exact ⟨Nat.one_pos, fun x => ⟨fun _ => ⟨x, by simp [whole]⟩, fun _ => trivial⟩, fun k => by simp [whole, rst]⟩
    · exact absurd e (by simp [heaps])
  · intro l s ih hg
    obtain ⟨hl, hs⟩ := good_snoc hg
    obtain ⟨i1, i2⟩ := ih hl
    rw [heaps_snoc]
    cases q : heaps l with
    | none =>
      refine ⟨fun h e => by simp at e, fun _ x hx => ?_⟩
      exact i2 q x ((go_snoc l s x).mp hx).1
    | some h0 =>
      have I := i1 h0 q
      refine ⟨fun h e => inv_snoc hs I e, fun e x hx => ?_⟩
      obtain ⟨h1, h2⟩ := (go_snoc l s x).mp hx
      obtain ⟨k, rfl⟩ := (I.go x).mp h1
      rw [I.rst, lin_red] at h2
      have hp : 0 < s.p := by have := hs.1; omega
      exact narrowed_none e (k % s.p) (Nat.mod_lt _ hp) h2

/-! what is taken -/
def tk (s : Share) (x : Nat) : Nat := s.t * ((x - s.r) / s.p)
theorem takes_snoc : ∀ (l : Night) (s : Share) (x : Nat), Go (l ++ [s]) x → takes (l ++ [s]) x = takes l x ++ [tk s (rst l x)]
  | [], s, x, h => by
    have h1 : x % s.p = s.r := h.1
    simp only [List.nil_append, takes, if_pos h1]
    rfl
  | a :: l, s, x, h => by
    have h1 : x % a.p = a.r := h.1
    have ih := takes_snoc l s (nxt a x) h.2
    simp only [List.cons_append, takes, if_pos h1, rst]
    unfold nxt at ih ⊢
    rw [ih]
theorem takes_len : ∀ (l : Night) (x : Nat), Go l x → (takes l x).length = l.length
  | [], _, _ => rfl
  | s :: l, x, h => by
    have h1 : x % s.p = s.r := h.1
    simp only [takes, if_pos h1, List.length_cons]
    have := takes_len l (nxt s x) h.2
    unfold nxt at this
    rw [this]

/-- what is taken with a share grows evenly from heap to heap -/
theorem takes_lin : ∀ (l : Night), Good l → ∀ h, heaps l = some h → ∀ i, ∃ a b, ∀ k, (takes l (h.first + h.step * k)).getD i 0 = a + b * k := by
  refine snocInd ?_ ?_
  · intro _ h _ i
    exact ⟨0, 0, fun k => by simp [takes]⟩
  · intro l s ih hg h e i
    obtain ⟨hl, hs⟩ := good_snoc hg
    have I := (heaps_inv _ hg).1 h e
    rw [heaps_snoc, Option.bind_eq_some_iff] at e
    obtain ⟨h0, e0, e1⟩ := e
    have I0 := (heaps_inv l hl).1 h0 e0
    obtain ⟨a, b, ab⟩ := ih hl h0 e0 i
    obtain ⟨k0, hk0, hr, hmin, rfl⟩ := narrowed_some e1
    have hp : 0 < s.p := by have := hs.1; omega
    have gk : ∀ k, Go (l ++ [s]) (h0.first + h0.step * k0 + h0.step * (s.p / Nat.gcd h0.more s.p) * k) := fun k => (I.go _).mpr ⟨k, rfl⟩
    have ex : ∀ k, h0.first + h0.step * k0 + h0.step * (s.p / Nat.gcd h0.more s.p) * k = h0.first + h0.step * (k0 + (s.p / Nat.gcd h0.more s.p) * k) := fun k => by
      rw [Nat.mul_add, Nat.add_assoc, Nat.mul_assoc]
    have ln : ∀ k, (takes l (h0.first + h0.step * k)).length = l.length := fun k => takes_len _ _ ((I0.go _).mpr ⟨k, rfl⟩)
    by_cases hi : i < l.length
    · refine ⟨a + b * k0, b * (s.p / Nat.gcd h0.more s.p), fun k => ?_⟩
      show (takes (l ++ [s]) (h0.first + h0.step * k0 + h0.step * (s.p / Nat.gcd h0.more s.p) * k)).getD i 0 = _
      rw [takes_snoc _ _ _ (gk k), ex, List.getD_eq_getElem?_getD, List.getElem?_append_left (by rw [ln]; exact hi), ← List.getD_eq_getElem?_getD, ab, Nat.mul_add, Nat.add_assoc, Nat.mul_assoc]
    · by_cases hi2 : i = l.length
      · subst hi2
        have hgp : Nat.gcd h0.more s.p ∣ s.p := Nat.gcd_dvd_right _ _
        obtain ⟨d', e2⟩ := gcd_mul (d := h0.more) (p := s.p)
        refine ⟨s.t * ((h0.rest + h0.more * k0 - s.r) / s.p), s.t * d', fun k => ?_⟩
        show (takes (l ++ [s]) (h0.first + h0.step * k0 + h0.step * (s.p / Nat.gcd h0.more s.p) * k)).getD l.length 0 = _
        rw [takes_snoc _ _ _ (gk k), ex, List.getD_eq_getElem?_getD, List.getElem?_append_right (by rw [ln]; exact Nat.le_refl _), ln, Nat.sub_self, I0.rst]
        show tk s _ = _
        unfold tk
        have e3 : h0.rest + h0.more * (k0 + s.p / Nat.gcd h0.more s.p * k) - s.r = (h0.rest + h0.more * k0 - s.r) + s.p * (d' * k) := by
          have le : s.r ≤ h0.rest + h0.more * k0 := by
            have := Nat.mod_le (h0.rest + h0.more * k0) s.p
            omega
          rw [Nat.mul_add, ← Nat.mul_assoc h0.more, e2, Nat.mul_comm d' s.p, Nat.mul_assoc]
          omega
        rw [e3, Nat.add_mul_div_left _ _ hp, Nat.mul_add, Nat.mul_assoc]
      · refine ⟨0, 0, fun k => ?_⟩
        show (takes (l ++ [s]) (h0.first + h0.step * k0 + h0.step * (s.p / Nat.gcd h0.more s.p) * k)).getD i 0 = _
        rw [takes_snoc _ _ _ (gk k), ex, List.getD_eq_getElem?_getD, List.getElem?_eq_none (by rw [List.length_append, ln]; simp only [List.length_cons, List.length_nil]; omega)]
        simp
end Uwm

end

section
set_option linter.all false
namespace Uwm
open Uw79

/-- a call as it stands in the list: its number, its whole numbers, and what it is -/
inductive Told : Int → List Int → Uw79.Call → Prop
  | night : Told 0 [] .night
  | share (p r t : Nat) (hp : p < 2 ^ 32) (hr : r < 2 ^ 32) (ht : t < 2 ^ 32) : Told 1 [(p : Int), (r : Int), (t : Int)] (.share p r t)
  | undo : Told 2 [] .undo
  | sailors (n : Nat) (hn : n < 2 ^ 32) : Told 3 [(n : Int)] (.sailors n)
  | goes (x : Nat) (hx : x < 2 ^ 32) : Told 4 [(x : Int)] (.goes x)
  | gets (x : Nat) (hx : x < 2 ^ 32) : Told 5 [(x : Int)] (.gets x)
  | least (x : Nat) (hx : x < 2 ^ 32) : Told 6 [(x : Int)] (.least x)
  | every : Told 7 [] .every
  | count (x : Nat) (hx : x < 2 ^ 32) : Told 8 [(x : Int)] (.count x)
  | richest (x i : Nat) (hx : x < 2 ^ 32) (hi : i < 2 ^ 32) : Told 9 [(x : Int), (i : Int)] (.richest x i)
  | back (y : Nat) (hy : y < 2 ^ 32) : Told 10 [(y : Int)] (.back y)
  | last (m : Nat) (hm : m < 2 ^ 32) : Told 11 [(m : Int)] (.last m)

/-- how many numbers stand behind a call's own -/
def behind : List Nat := [0, 3, 0, 1, 1, 1, 1, 0, 1, 2, 1, 1]

theorem shape_cases {p : Int} {n k : Nat} (h : PyUw79.shape p = some (n, k)) : k = 0 ∧ ∃ j : Nat, p = (j : Int) ∧ behind[j]? = some n := by
  have d : p = 0 ∨ p = 1 ∨ p = 2 ∨ p = 3 ∨ p = 4 ∨ p = 5 ∨ p = 6 ∨ p = 7 ∨ p = 8 ∨ p = 9 ∨ p = 10 ∨ p = 11 := by
    unfold PyUw79.shape at h
    by_cases h0 : 0 ≤ p ∧ p ≤ 11
    · omega
    · rw [if_neg (by omega), if_neg (by omega), if_neg (by omega), if_neg (by omega), if_neg (by omega), if_neg (by omega), if_neg (by omega), if_neg (by omega), if_neg (by omega), if_neg (by omega), if_neg (by omega), if_neg (by omega)] at h
      cases h
  rcases d with rfl | rfl | rfl | rfl | rfl | rfl | rfl | rfl | rfl | rfl | rfl | rfl
  · cases h; exact ⟨rfl, 0, rfl, rfl⟩
  · cases h; exact ⟨rfl, 1, rfl, rfl⟩
  · cases h; exact ⟨rfl, 2, rfl, rfl⟩
  · cases h; exact ⟨rfl, 3, rfl, rfl⟩
  · cases h; exact ⟨rfl, 4, rfl, rfl⟩
  · cases h; exact ⟨rfl, 5, rfl, rfl⟩
  · cases h; exact ⟨rfl, 6, rfl, rfl⟩
  · cases h; exact ⟨rfl, 7, rfl, rfl⟩
  · cases h; exact ⟨rfl, 8, rfl, rfl⟩
  · cases h; exact ⟨rfl, 9, rfl, rfl⟩
  · cases h; exact ⟨rfl, 10, rfl, rfl⟩
  · cases h; exact ⟨rfl, 11, rfl, rfl⟩

theorem calls_cons {f : Nat} {p : Int} {r : List Int} {cs : List (List (List Int))} (h : PyFlat.calls PyUw79.shape f (p :: r) = some cs) :
    ∃ f' n cs', PyUw79.shape p = some (n, 0) ∧ n ≤ r.length ∧ cs = [p :: r.take n] :: cs' ∧ PyFlat.calls PyUw79.shape f' (r.drop n) = some cs' := by
  cases f with
  | zero => simp [PyFlat.calls] at h
  | succ f =>
    unfold PyFlat.calls PyFlat.call at h
    cases hs : PyUw79.shape p with
    | none => simp [hs] at h
    | some nk =>
      obtain ⟨n, k⟩ := nk
      have hk := (shape_cases hs).1
      subst hk
      simp only [hs] at h
      by_cases hl : r.length < n
      · simp [hl] at h
      · simp only [if_neg hl, PyFlat.rows] at h
        cases hc : PyFlat.calls PyUw79.shape f (r.drop n) with
        | none => simp [hc] at h
        | some cs' =>
          simp only [hc] at h
          exact ⟨f, n, cs', rfl, by omega, (Option.some.inj h).symm, hc⟩

theorem calls_nil {f : Nat} {cs : List (List (List Int))} (h : PyFlat.calls PyUw79.shape f [] = some cs) : cs = [] := by
  cases f <;> simp [PyFlat.calls] at h <;> exact h

/-- what the rest of the calls answers, from a night on -/
def fin (s : Night) (raw : List (List (List Int))) : List Int := PyFlat.told (PyFlat.played (fun s c => Uw79Neutral.step s (c.headD [])) s (raw.map PyUw79.whole))

theorem nat_all : ∀ (l : List Nat), (∀ x ∈ l, x < 2 ^ 32) → ((l.map fun (n : Nat) => (n : Int)).all Uw79Neutral.nat) = true
  | [], _ => rfl
  | a :: l, h => by
    have h1 := h a (by simp)
    have ih := nat_all l fun x hx => h x (by simp [hx])
    simp only [List.map_cons, List.all_cons, ih, Bool.and_true]
    unfold Uw79Neutral.nat
    simp only [Bool.and_eq_true, decide_eq_true_eq]
    omega

theorem step_told {p : Int} {as : List Int} {c : Uw79.Call} (h : Told p as c) (s : Night) : Uw79Neutral.step s ((PyUw79.whole [p :: as]).headD []) = Uw79.step s c := by
  have key : ∀ (l : List Nat) (c : Uw79.Call), (∀ x ∈ l, x < 2 ^ 32) → Uw79Neutral.callIn l = some c → Uw79Neutral.step s (l.map fun (n : Nat) => (n : Int)) = Uw79.step s c := by
    intro l c hl hc
    have e : Uw79Neutral.callOf (l.map fun (n : Nat) => (n : Int)) = some c := by
      unfold Uw79Neutral.callOf
      rw [nat_all l hl, if_neg (by decide), List.map_map]
      have : (Int.toNat ∘ fun (n : Nat) => (n : Int)) = id := by funext x; simp
      rw [this, List.map_id, hc]
    unfold Uw79Neutral.step Uw79Neutral.out
    rw [e]
  cases h with
  | night => exact key [0] _ (by simp) rfl
  | share p r t hp hr ht => exact key [1, p, r, t] _ (by simp; exact ⟨hp, hr, ht⟩) rfl
  | undo => exact key [2] _ (by simp) rfl
  | sailors n hn => exact key [3, n] _ (by simpa using hn) rfl
  | goes x hx => exact key [4, x] _ (by simpa using hx) rfl
  | gets x hx => exact key [5, x] _ (by simpa using hx) rfl
  | least x hx => exact key [6, x] _ (by simpa using hx) rfl
  | every => exact key [7] _ (by simp) rfl
  | count x hx => exact key [8, x] _ (by simpa using hx) rfl
  | richest x i hx hi => exact key [9, x, i] _ (by simp; exact ⟨hx, hi⟩) rfl
  | back y hy => exact key [10, y] _ (by simpa using hy) rfl
  | last m hm => exact key [11, m] _ (by simpa using hm) rfl

theorem fin_cons {p : Int} {as : List Int} {c : Uw79.Call} (h : Told p as c) (s : Night) (raw : List (List (List Int))) :
    fin s ([p :: as] :: raw) = ((Uw79.step s c).2.length : Int) :: (Uw79.step s c).2 ++ fin (Uw79.step s c).1 raw := by
  unfold fin
  rw [List.map_cons]
  have e : ∀ (st : Night → List (List Int) → Night × List Int) (s : Night) (c : List (List Int)) r, PyFlat.told (PyFlat.played st s (c :: r)) = ((st s c).2.length : Int) :: (st s c).2 ++ PyFlat.told (PyFlat.played st (st s c).1 r) := fun _ _ _ _ => rfl
  rw [e, step_told h s]

/-- a number of the list, as a natural number -/
theorem nat_of {z : Int} (h0 : 0 ≤ z) (h1 : z ≤ 4294967295) : ∃ n : Nat, z = (n : Int) ∧ n < 2 ^ 32 := ⟨z.toNat, by omega, by omega⟩

theorem told_of {p : Int} {n : Nat} {as : List Int} (hs : PyUw79.shape p = some (n, 0)) (hl : as.length = n) (hb : ∀ z ∈ as, 0 ≤ z ∧ z ≤ 4294967295) : ∃ c, Told p as c := by
  obtain ⟨_, j, rfl, hj⟩ := shape_cases hs
  have j12 : j < 12 := by
    have := (List.getElem?_eq_some_iff.mp hj).1
    simpa [behind] using this
  have one : n = 1 → ∃ x : Nat, as = [(x : Int)] ∧ x < 2 ^ 32 := by
    intro e
    subst e
    match as, hl, hb with
    | [a], _, hb =>
      obtain ⟨x, rfl, hx⟩ := nat_of (hb a (by simp)).1 (hb a (by simp)).2
      exact ⟨x, rfl, hx⟩
  have zero : n = 0 → as = [] := fun e => List.length_eq_zero_iff.mp (hl.trans e)
  match j, j12, hj with
  | 0, _, hj => rw [zero (Option.some.inj hj).symm]; exact ⟨_, .night⟩
  | 1, _, hj =>
    have e : n = 3 := (Option.some.inj hj).symm
    subst e
    match as, hl, hb with
    | [a, b, c], _, hb =>
      obtain ⟨x, rfl, hx⟩ := nat_of (hb a (by simp)).1 (hb a (by simp)).2
      obtain ⟨y, rfl, hy⟩ := nat_of (hb b (by simp)).1 (hb b (by simp)).2
      obtain ⟨z, rfl, hz⟩ := nat_of (hb c (by simp)).1 (hb c (by simp)).2
      exact ⟨_, .share x y z hx hy hz⟩
  | 2, _, hj => rw [zero (Option.some.inj hj).symm]; exact ⟨_, .undo⟩
  | 3, _, hj => obtain ⟨x, rfl, hx⟩ := one (Option.some.inj hj).symm; exact ⟨_, .sailors x hx⟩
  | 4, _, hj => obtain ⟨x, rfl, hx⟩ := one (Option.some.inj hj).symm; exact ⟨_, .goes x hx⟩
  | 5, _, hj => obtain ⟨x, rfl, hx⟩ := one (Option.some.inj hj).symm; exact ⟨_, .gets x hx⟩
  | 6, _, hj => obtain ⟨x, rfl, hx⟩ := one (Option.some.inj hj).symm; exact ⟨_, .least x hx⟩
  | 7, _, hj => rw [zero (Option.some.inj hj).symm]; exact ⟨_, .every⟩
  | 8, _, hj => obtain ⟨x, rfl, hx⟩ := one (Option.some.inj hj).symm; exact ⟨_, .count x hx⟩
  | 9, _, hj =>
    have e : n = 2 := (Option.some.inj hj).symm
    subst e
    match as, hl, hb with
    | [a, b], _, hb =>
      obtain ⟨x, rfl, hx⟩ := nat_of (hb a (by simp)).1 (hb a (by simp)).2
      obtain ⟨y, rfl, hy⟩ := nat_of (hb b (by simp)).1 (hb b (by simp)).2
      exact ⟨_, .richest x y hx hy⟩
  | 10, _, hj => obtain ⟨x, rfl, hx⟩ := one (Option.some.inj hj).symm; exact ⟨_, .back x hx⟩
  | 11, _, hj => obtain ⟨x, rfl, hx⟩ := one (Option.some.inj hj).symm; exact ⟨_, .last x hx⟩
  | j + 12, h, _ => exact absurd h (by omega)

/-- one turn: what stands at the place i -/
theorem turn {f i : Nat} {ns : List Int} {raw : List (List (List Int))} (hb : ∀ z ∈ ns, 0 ≤ z ∧ z ≤ 4294967295) (h : PyFlat.calls PyUw79.shape f (ns.drop i) = some raw) (hi : i < ns.length) :
    ∃ (f' j n : Nat) (raw' : List (List (List Int))) (c : Uw79.Call), ns[i]? = some (j : Int) ∧ behind[j]? = some n ∧ i + 1 + n ≤ ns.length ∧ raw = [(j : Int) :: (ns.drop (i + 1)).take n] :: raw' ∧
      Told (j : Int) ((ns.drop (i + 1)).take n) c ∧ PyFlat.calls PyUw79.shape f' (ns.drop (i + 1 + n)) = some raw' := by
  have e : ns.drop i = ns[i] :: ns.drop (i + 1) := List.drop_eq_getElem_cons hi
  rw [e] at h
  obtain ⟨f', n, raw', hs, hn, hraw, hc⟩ := calls_cons h
  obtain ⟨_, j, hj, hjn⟩ := shape_cases hs
  have hlen : n ≤ ns.length - (i + 1) := by rw [List.length_drop] at hn; exact hn
  have hl : ((ns.drop (i + 1)).take n).length = n := by rw [List.length_take, List.length_drop]; omega
  obtain ⟨c, hT⟩ := told_of hs hl (fun z hz => hb z (List.mem_of_mem_drop (List.mem_of_mem_take hz)))
  rw [hj] at hraw hT
  refine ⟨f', j, n, raw', c, ?_, hjn, by omega, hraw, hT, ?_⟩
  · rw [List.getElem?_eq_getElem hi, hj]
  · rw [List.drop_drop] at hc
    exact hc

theorem asked_start {ns : List Int} (h : PyUw79.answers_asked ns = true) : ∃ raw, PyFlat.calls PyUw79.shape ns.length ns = some raw ∧ PyUw79.answers ns = fin [] raw ∧ (fin [] raw).length ≤ 10000000 := by
  unfold PyUw79.answers_asked at h
  cases e : PyFlat.calls PyUw79.shape ns.length ns with
  | none => simp [e] at h
  | some raw =>
    simp only [e, Bool.and_eq_true] at h
    have ea : PyUw79.answers ns = fin [] raw := by
      unfold PyUw79.answers PyUw79.calls
      rw [e]
      rfl
    refine ⟨raw, rfl, ea, ?_⟩
    have := h.2
    unfold PyFlat.short at this
    rw [ea] at this
    exact of_decide_eq_true this

/-- a night that may be -/
def Ok (l : Night) : Prop := Good l ∧ l.length ≤ 10

theorem good_sailors {n : Nat} (h1 : 2 ≤ n) (h2 : n ≤ 9) : Ok (Uw79.sailors n) := by
  refine ⟨fun s hs => ?_, ?_⟩
  · unfold Uw79.sailors at hs
    rcases List.mem_append.mp hs with q | q
    · have := List.eq_of_mem_replicate q
      subst this
      exact ⟨h1, h2, by show 1 < n; omega, Nat.le_refl _, by show 1 ≤ n; omega⟩
    · have := List.mem_singleton.mp q
      subst this
      exact ⟨h1, h2, by show 1 < n; omega, by show 1 ≤ n; omega, Nat.le_refl _⟩
  · unfold Uw79.sailors
    rw [List.length_append, List.length_replicate]
    show n + 1 ≤ 10
    omega

theorem ok_step {l : Night} (h : Ok l) (c : Uw79.Call) : Ok (Uw79.step l c).1 := by
  cases c with
  | night => exact ⟨fun s hs => (by cases hs), Nat.zero_le _⟩
  | share p r t =>
    simp only [Uw79.step]
    split
    · exact h
    split
    · exact h
    · rename_i h1 h2
      refine ⟨fun s hs => ?_, ?_⟩
      · rcases List.mem_append.mp hs with q | q
        · exact h.1 s q
        · have := List.mem_singleton.mp q
          subst this
          unfold GoodS
          dsimp only
          omega
      · show (l ++ [_]).length ≤ 10
        rw [List.length_append]
        show l.length + 1 ≤ 10
        omega
  | undo =>
    simp only [Uw79.step]
    split
    · exact h
    · refine ⟨fun s hs => h.1 s (List.dropLast_subset l hs), ?_⟩
      show l.dropLast.length ≤ 10
      rw [List.length_dropLast]
      have := h.2
      omega
  | sailors n =>
    simp only [Uw79.step]
    split
    · exact h
    · rename_i q
      exact good_sailors (by omega) (by omega)
  | last m =>
    simp only [Uw79.step]
    split <;> exact h
  | _ => exact h
end Uwm

end

section
set_option linter.all false
namespace Uwm
open Uw79

/-- the sizes of the parts of the shares that go -/
def szs : Night → Nat → List Nat
  | [], _ => []
  | s :: l, x => if x % s.p = s.r then ((x - s.r) / s.p) :: szs l (nxt s x) else []

theorem goes_szs : ∀ (l : Night) (x : Nat), goes l x = List.zipWith (fun (s : Share) q => (s.p - s.t) * q) l (szs l x)
  | [], _ => rfl
  | s :: l, x => by
    unfold goes szs
    by_cases h : x % s.p = s.r
    · rw [if_pos h, if_pos h, List.zipWith_cons_cons, ← goes_szs l (nxt s x)]
      rfl
    · rw [if_neg h, if_neg h]
      rfl
theorem takes_szs : ∀ (l : Night) (x : Nat), takes l x = List.zipWith (fun (s : Share) q => s.t * q) l (szs l x)
  | [], _ => rfl
  | s :: l, x => by
    unfold takes szs
    by_cases h : x % s.p = s.r
    · rw [if_pos h, if_pos h, List.zipWith_cons_cons, ← takes_szs l (nxt s x)]
      rfl
    · rw [if_neg h, if_neg h]
      rfl
theorem szs_le : ∀ (l : Night) (x : Nat), (szs l x).length ≤ l.length
  | [], _ => Nat.le_refl _
  | s :: l, x => by
    unfold szs
    split
    · simp only [List.length_cons]
      exact Nat.succ_le_succ (szs_le l _)
    · exact Nat.zero_le _
theorem goes_len (l : Night) (x : Nat) : (goes l x).length = (szs l x).length := by
  rw [goes_szs, List.length_zipWith]
  exact Nat.min_eq_right (szs_le l x)
theorem szs_go : ∀ (l : Night) (s : Share) (x : Nat), Go l x → rst l x % s.p = s.r → szs (l ++ [s]) x = szs l x ++ [(rst l x - s.r) / s.p]
  | [], s, x, _, h => by
    have h' : x % s.p = s.r := h
    simp only [List.nil_append, szs, if_pos h', rst]
  | a :: l, s, x, g, h => by
    simp only [List.cons_append, szs, if_pos g.1, rst]
    rw [szs_go l s (nxt a x) g.2 h]
theorem szs_stop : ∀ (l : Night) (s : Share) (l2 : Night) (x : Nat), Go l x → ¬ rst l x % s.p = s.r → szs (l ++ s :: l2) x = szs l x
  | [], s, l2, x, _, h => by
    have h' : ¬ x % s.p = s.r := h
    simp only [List.nil_append, szs, if_neg h']
  | a :: l, s, l2, x, g, h => by
    simp only [List.cons_append, szs, if_pos g.1]
    rw [szs_stop l s l2 (nxt a x) g.2 h]
theorem szs_all : ∀ (l : Night) (x : Nat), Go l x → (szs l x).length = l.length
  | [], _, _ => rfl
  | a :: l, x, g => by
    simp only [szs, if_pos g.1, List.length_cons]
    rw [szs_all l _ g.2]
theorem go_of_szs (l : Night) (x : Nat) (h : (szs l x).length = l.length) : Go l x := by
  refine (allGo_iff l x).mp ?_
  unfold allGo
  rw [goes_len, h]
  exact beq_self_eq_true _
theorem not_allGo (l : Night) (x : Nat) (h : ¬ (szs l x).length = l.length) : allGo l x = false := by
  cases e : allGo l x with
  | false => rfl
  | true => exact absurd (szs_all l x ((allGo_iff l x).mp e)) h

theorem take_snoc {α : Type} : ∀ {l : List α} {i : Nat} {x : α}, l[i]? = some x → l.take (i + 1) = l.take i ++ [x]
  | [], i, x, h => by simp at h
  | a :: l, 0, x, h => by
    have e : a = x := Option.some.inj h
    subst e
    rfl
  | a :: l, i + 1, x, h => by
    have ih := take_snoc (l := l) (i := i) (x := x) h
    show a :: l.take (i + 1) = a :: l.take i ++ [x]
    rw [ih]
    rfl
theorem split_at {α : Type} {l : List α} {i : Nat} {x : α} (h : l[i]? = some x) : l = l.take i ++ x :: l.drop (i + 1) := by
  obtain ⟨hi, e⟩ := List.getElem?_eq_some_iff.mp h
  rw [← e, ← List.drop_eq_getElem_cons hi, List.take_append_drop]

theorem foldl_add : ∀ (l : List Nat) (a : Nat), l.foldl (fun a b => a + b) a = a + l.sum
  | [], a => by simp
  | b :: l, a => by rw [List.foldl_cons, foldl_add l, List.sum_cons, Nat.add_assoc]
theorem monkey_cons (s : Share) (l : Night) : monkey (s :: l) = s.r + monkey l := by
  unfold monkey
  rw [foldl_add, foldl_add, List.map_cons, List.sum_cons]
  omega
/-- no coconut is lost -/
theorem whole_heap : ∀ (l : Night) (x : Nat), Good l → Go l x → x = monkey l + (takes l x).sum + rst l x
  | [], x, _, _ => by simp [monkey, takes, rst]
  | s :: l, x, hg, h => by
    have ih := whole_heap l (nxt s x) (fun a ha => hg a (List.mem_cons_of_mem _ ha)) h.2
    have hs := hg s (List.mem_cons_self)
    have h1 : x % s.p = s.r := h.1
    simp only [takes, if_pos h1, List.sum_cons, rst, monkey_cons]
    have e0 : takes l ((s.p - s.t) * ((x - s.r) / s.p)) = takes l (nxt s x) := rfl
    rw [e0]
    have e1 : x = s.r + s.p * ((x - s.r) / s.p) := by
      have := Nat.mod_add_div x s.p
      have h2 : (x - s.r) / s.p = x / s.p := by
        have hp : 0 < s.p := by have := hs.1; omega
        have : x - s.r = s.p * (x / s.p) := by omega
        rw [this, Nat.mul_div_cancel_left _ hp]
      rw [h2]
      omega
    have e2 : s.p * ((x - s.r) / s.p) = s.t * ((x - s.r) / s.p) + nxt s x := by
      unfold nxt
      rw [← Nat.add_mul]
      congr 1
      have := hs.2.2.2.2
      omega
    omega
theorem sum_ints : ∀ l : List Nat, (Uw79.ints l).sum = ((l.sum : Nat) : Int)
  | [] => rfl
  | a :: l => by
    have ih := sum_ints l
    unfold Uw79.ints at ih ⊢
    rw [List.map_cons, List.sum_cons, List.sum_cons, ih]
    omega
theorem monkey_sum : ∀ l : Night, (l.map fun s => (s.r : Int)).sum = (monkey l : Int)
  | [] => rfl
  | s :: l => by
    rw [List.map_cons, List.sum_cons, monkey_sum l, monkey_cons]
    omega
/-- sizes of what the parts are -/
theorem nxt_le (s : Share) (x : Nat) (hs : GoodS s) : nxt s x ≤ x := by
  unfold nxt
  have hp : 0 < s.p := by have := hs.1; omega
  have h1 : (s.p - s.t) * ((x - s.r) / s.p) ≤ s.p * ((x - s.r) / s.p) := Nat.mul_le_mul_right _ (Nat.sub_le _ _)
  have h2 := Nat.mul_div_le (x - s.r) s.p
  omega
theorem rst_le : ∀ (l : Night) (x : Nat), Good l → rst l x ≤ x
  | [], x, _ => Nat.le_refl _
  | s :: l, x, h => Nat.le_trans (rst_le l _ fun a ha => h a (List.mem_cons_of_mem _ ha)) (nxt_le s x (h s List.mem_cons_self))
end Uwm

end

section
set_option linter.all false
namespace Uwm
open Uw79
/-- the first heap and the step are told by which heaps go -/
theorem Inv.uniq {l : Night} {h : Heaps} (I : Inv l h) {a b : Nat} (hb : 0 < b) (g : ∀ x, Go l x ↔ ∃ k, x = a + b * k) : a = h.first ∧ b = h.step := by
  have h1 : ∃ k, h.first = a + b * k := (g _).mp ((I.go _).mpr ⟨0, by simp⟩)
  have h2 : ∃ k, a = h.first + h.step * k := (I.go _).mp ((g _).mpr ⟨0, by simp⟩)
  have e : a = h.first := by
    obtain ⟨k1, e1⟩ := h1
    obtain ⟨k2, e2⟩ := h2
    omega
  subst e
  refine ⟨rfl, ?_⟩
  obtain ⟨k1, e1⟩ := (g _).mp ((I.go (h.first + h.step)).mpr ⟨1, by simp⟩)
  obtain ⟨k2, e2⟩ := (I.go _).mp ((g (h.first + b)).mpr ⟨1, by simp⟩)
  have e1' : h.step = b * k1 := by omega
  have e2' : b = h.step * k2 := by omega
  exact Nat.dvd_antisymm ⟨k1, e1'⟩ ⟨k2, e2'⟩
theorem Inv.go_first {l : Night} {h : Heaps} (I : Inv l h) : Go l h.first := (I.go _).mpr ⟨0, by simp⟩
theorem Inv.go_next {l : Night} {h : Heaps} (I : Inv l h) : Go l (h.first + h.step) := (I.go _).mpr ⟨1, by simp⟩
theorem Inv.rest_first {l : Night} {h : Heaps} (I : Inv l h) : Uwm.rst l h.first = h.rest := by
  have := I.rst 0
  simpa using this
theorem Inv.rest_next {l : Night} {h : Heaps} (I : Inv l h) : Uwm.rst l (h.first + h.step) = h.rest + h.more := by
  have := I.rst 1
  simpa using this
theorem Inv.least {l : Night} {h : Heaps} (I : Inv l h) {x : Nat} (g : Go l x) : h.first ≤ x := by
  obtain ⟨k, rfl⟩ := (I.go x).mp g
  exact Nat.le_add_right _ _

/-- the least heap that goes, no less than x -/
theorem leastFrom_is {l : Night} {h : Heaps} (I : Inv l h) (x : Nat) : Go l (leastFrom h x) ∧ x ≤ leastFrom h x ∧ ∀ y, Go l y → x ≤ y → leastFrom h x ≤ y := by
  have hp := I.pos
  unfold leastFrom
  by_cases hx : x ≤ h.first
  · rw [if_pos hx]
    exact ⟨I.go_first, hx, fun y g _ => I.least g⟩
  · rw [if_neg hx]
    generalize hq : (x - h.first + h.step - 1) / h.step = q
    have h1 := Nat.div_add_mod (x - h.first + h.step - 1) h.step
    have h2 := Nat.mod_lt (x - h.first + h.step - 1) hp
    rw [hq] at h1
    have e : q * h.step = h.step * q := Nat.mul_comm _ _
    refine ⟨(I.go _).mpr ⟨q, by rw [e]⟩, by omega, fun y g hy => ?_⟩
    obtain ⟨k, rfl⟩ := (I.go y).mp g
    have hk : q ≤ k := by
      rcases Nat.lt_or_ge k q with hlt | hge
      · exfalso
        have : h.step * (k + 1) ≤ h.step * q := Nat.mul_le_mul_left _ hlt
        rw [Nat.mul_add, Nat.mul_one] at this
        omega
      · exact hge
    have := Nat.mul_le_mul_left h.step hk
    omega
theorem least_uniq {P : Nat → Prop} {a b : Nat} (ha : P a) (hb : P b) (la : ∀ y, P y → a ≤ y) (lb : ∀ y, P y → b ≤ y) : a = b := Nat.le_antisymm (la b hb) (lb a ha)

/-! lists that rise are told by what is in them -/
theorem rising_uniq : ∀ {a b : List Nat}, a.Pairwise (· < ·) → b.Pairwise (· < ·) → (∀ x, x ∈ a ↔ x ∈ b) → a = b
  | [], [], _, _, _ => rfl
  | [], y :: b, _, _, h => absurd ((h y).mpr (by simp)) (by simp)
  | x :: a, [], _, _, h => absurd ((h x).mp (by simp)) (by simp)
  | x :: a, y :: b, ha, hb, h => by
    obtain ⟨ha1, ha2⟩ := List.pairwise_cons.mp ha
    obtain ⟨hb1, hb2⟩ := List.pairwise_cons.mp hb
    have e : x = y := by
      have h1 : x ∈ y :: b := (h x).mp (by simp)
      have h2 : y ∈ x :: a := (h y).mpr (by simp)
      rcases List.mem_cons.mp h1 with h1 | h1
      · exact h1
      · rcases List.mem_cons.mp h2 with h2 | h2
        · exact h2.symm
        · have := ha1 y h2
          have := hb1 x h1
          omega
    subst e
    rw [rising_uniq ha2 hb2 fun z => ?_]
    constructor
    · intro hz
      have h3 : z ∈ x :: b := (h z).mp (by simp [hz])
      rcases List.mem_cons.mp h3 with h3 | h3
      · subst h3
        exact absurd (ha1 z hz) (Nat.lt_irrefl _)
      · exact h3
    · intro hz
      have h3 : z ∈ x :: a := (h z).mpr (by simp [hz])
      rcases List.mem_cons.mp h3 with h3 | h3
      · subst h3
        exact absurd (hb1 z hz) (Nat.lt_irrefl _)
      · exact h3
theorem range_rising (n : Nat) : (List.range n).Pairwise (· < ·) := List.pairwise_lt_range
theorem lasts_rising (h : Heaps) (m : Nat) : (lasts h m).Pairwise (· < ·) := by
  unfold lasts
  exact List.Pairwise.filter _ (range_rising m)
theorem mem_lasts {h : Heaps} {m : Nat} (hm : 0 < m) {v : Nat} : v ∈ lasts h m ↔ ∃ k, (h.rest + h.more * k) % m = v := by
  unfold lasts
  rw [List.mem_filter, List.mem_range, List.any_eq_true]
  constructor
  · rintro ⟨_, k, _, e⟩
    exact ⟨k, by simpa using e⟩
  · rintro ⟨k, e⟩
    refine ⟨by rw [← e]; exact Nat.mod_lt _ hm, k % m, List.mem_range.mpr (Nat.mod_lt _ hm), ?_⟩
    rw [beq_iff_eq, ← e, ← lin_red]

/-! back -/
theorem back_drop {l : Night} {j : Nat} {s : Share} (h : l[j]? = some s) (y : Nat) :
    back (l.drop j) y = (back (l.drop (j + 1)) y).bind fun z => if z % (s.p - s.t) = 0 then some (s.p * (z / (s.p - s.t)) + s.r) else none := by
  obtain ⟨hi, e⟩ := List.getElem?_eq_some_iff.mp h
  rw [List.drop_eq_getElem_cons hi, e]
  rfl
theorem back_none {l : Night} {y : Nat} : ∀ j, back (l.drop j) y = none → back l y = none
  | 0, h => by simpa using h
  | j + 1, h => by
    refine back_none j ?_
    by_cases hj : j < l.length
    · rw [back_drop (List.getElem?_eq_getElem hj), h]
      rfl
    · rw [List.drop_eq_nil_of_le (by omega)] at h
      cases h
/-- bounds of the numbers of a night -/
theorem heaps_bounds : ∀ (l : Night), Good l → ∀ h, heaps l = some h → h.first < 9 ^ l.length + 1 ∧ h.step ≤ 9 ^ l.length ∧ h.rest ≤ h.first ∧ h.more ≤ h.step := by
  refine snocInd ?_ ?_
  · intro _ h e
    have : h = whole := (Option.some.inj e).symm
    subst this
    decide
  · intro l s ih hg h e
    obtain ⟨hl, hs⟩ := good_snoc hg
    have Ih := (heaps_inv _ hg).1 h e
    rw [heaps_snoc, Option.bind_eq_some_iff] at e
    obtain ⟨h0, e0, e1⟩ := e
    obtain ⟨b1, b2, b3, b4⟩ := ih hl h0 e0
    obtain ⟨k, hk, hr, hmin, rfl⟩ := narrowed_some e1
    obtain ⟨g1, g2, g3, g4, g5⟩ := hs
    have hp : 0 < s.p := by omega
    have hj : s.p / Nat.gcd h0.more s.p ≤ 9 := Nat.le_trans (Nat.div_le_self _ _) g2
    have hlen : (l ++ [s]).length = l.length + 1 := by simp
    rw [hlen, Nat.pow_succ]
    generalize hP : 9 ^ l.length = P at b1 b2 ⊢
    have m1 : h0.step * k ≤ P * 8 := Nat.mul_le_mul b2 (by omega)
    have m2 : h0.step * (s.p / Nat.gcd h0.more s.p) ≤ P * 9 := Nat.mul_le_mul b2 hj
    refine ⟨by show h0.first + h0.step * k < P * 9 + 1; omega, m2, ?_, ?_⟩
    · have := rst_le (l ++ [s]) (h0.first + h0.step * k) hg
      have e2 := Ih.rest_first
      exact Nat.le_trans (Nat.le_of_eq e2.symm) this
    · show (s.p - s.t) * (h0.more * (s.p / Nat.gcd h0.more s.p) / s.p) ≤ h0.step * (s.p / Nat.gcd h0.more s.p)
      have i1 : (s.p - s.t) * (h0.more * (s.p / Nat.gcd h0.more s.p) / s.p) ≤ s.p * (h0.more * (s.p / Nat.gcd h0.more s.p) / s.p) := Nat.mul_le_mul_right _ (Nat.sub_le _ _)
      have i2 := Nat.mul_div_le (h0.more * (s.p / Nat.gcd h0.more s.p)) s.p
      have i3 : h0.more * (s.p / Nat.gcd h0.more s.p) ≤ h0.step * (s.p / Nat.gcd h0.more s.p) := Nat.mul_le_mul_right _ b4
      omega
end Uwm

end

section
set_option linter.all false
namespace Uwm
open Uw79
theorem btw_pos (d p : Nat) (hp : 0 < p) : 0 < p / Nat.gcd d p := Nat.div_pos (Nat.le_of_dvd hp (Nat.gcd_dvd_right d p)) (Nat.gcd_pos_of_pos_right d hp)
theorem btw_le (d p : Nat) : p / Nat.gcd d p ≤ p := Nat.div_le_self _ _
theorem btw_zero (d p : Nat) : (p / Nat.gcd d p) * d % p = 0 := by
  obtain ⟨d', e⟩ := gcd_mul (d := d) (p := p)
  rw [Nat.mul_comm, e, Nat.mul_mod_left]
theorem btw_min (d p : Nat) (hp : 0 < p) {i : Nat} (hi : 0 < i) (h : i * d % p = 0) : p / Nat.gcd d p ≤ i := by
  refine Nat.le_of_dvd hi (lin_back (c := 0) (d := d) (k := 0) hp ?_)
  rw [Nat.zero_add, Nat.zero_add, Nat.mul_comm, h]
  simp
/-- the least place that goes -/
def placeOf (f st : Nat) (s : Share) : Option Nat := (List.range s.p).find? fun k => (f + st * k) % s.p == s.r
theorem placeOf_none {f st : Nat} {s : Share} (h : ∀ k, k < s.p → (f + st * k) % s.p ≠ s.r) : placeOf f st s = none := by
  unfold placeOf
  rw [List.find?_eq_none]
  intro k hk
  have := h k (List.mem_range.mp hk)
  simpa using this
theorem placeOf_some {f st k : Nat} {s : Share} (hk : k < s.p) (h : (f + st * k) % s.p = s.r) (hm : ∀ k', k' < k → (f + st * k') % s.p ≠ s.r) : placeOf f st s = some k := by
  unfold placeOf
  rw [List.find?_range_eq_some]
  refine ⟨by simpa using h, by simpa using hk, fun j hj => ?_⟩
  have := hm j hj
  simpa using this
theorem narrowed_place (h : Heaps) (s : Share) : narrowed h s = (placeOf h.rest h.more s).map fun k => ⟨h.first + h.step * k, h.step * (s.p / Nat.gcd h.more s.p), (s.p - s.t) * ((h.rest + h.more * k - s.r) / s.p), (s.p - s.t) * (h.more * (s.p / Nat.gcd h.more s.p) / s.p)⟩ := rfl
theorem placeOf_lt {f st k : Nat} {s : Share} (h : placeOf f st s = some k) : k < s.p ∧ (f + st * k) % s.p = s.r := by
  unfold placeOf at h
  rw [List.find?_range_eq_some] at h
  exact ⟨by simpa using h.2.1, by simpa using h.1⟩
theorem heaps_take {l : Night} {i : Nat} {s : Share} (h : l[i]? = some s) : heaps (l.take (i + 1)) = (heaps (l.take i)).bind fun q => narrowed q s := by
  rw [take_snoc h, heaps_snoc]
theorem foldl_none : ∀ (l : Night), l.foldl (fun (o : Option Heaps) s => o.bind fun h => narrowed h s) none = none
  | [] => rfl
  | s :: l => foldl_none l
theorem heaps_none {l : Night} {i : Nat} (h : heaps (l.take i) = none) : heaps l = none := by
  conv => lhs; rw [← List.take_append_drop i l]
  unfold heaps at h ⊢
  rw [List.foldl_append, h]
  exact foldl_none _
theorem nine {n : Nat} (h : n ≤ 10) : 9 ^ n ≤ 3486784401 := by
  have := Nat.pow_le_pow_right (show 0 < 9 by decide) h
  exact Nat.le_trans this (by decide)
/-- bounds of a night of at most ten shares -/
theorem bounds {l : Night} (hg : Good l) (hl : l.length ≤ 10) {h : Heaps} (e : heaps l = some h) : h.first ≤ 3486784401 ∧ h.step ≤ 3486784401 ∧ h.rest ≤ 3486784401 ∧ h.more ≤ 3486784401 := by
  obtain ⟨b1, b2, b3, b4⟩ := heaps_bounds l hg h e
  have := nine hl
  omega
theorem good_take {l : Night} (h : Good l) (i : Nat) : Good (l.take i) := fun s hs => h s (List.mem_of_mem_take hs)
theorem takenOf_eq {l : Night} (hg : Good l) {h : Heaps} (e : heaps l = some h) (i : Nat) : (takes l h.first).getD i 0 ≤ (takes l (h.first + h.step)).getD i 0 := by
  obtain ⟨a, b, q⟩ := takes_lin l hg h e i
  have q0 := q 0
  have q1 := q 1
  rw [Nat.mul_zero, Nat.mul_zero, Nat.add_zero, Nat.add_zero] at q0
  rw [Nat.mul_one, Nat.mul_one] at q1
  rw [q0, q1]
  exact Nat.le_add_right _ _
theorem taken_le : ∀ (l : Night) (x : Nat) (v : Nat), Good l → v ∈ takes l x → v ≤ x
  | [], x, v, _, h => by cases h
  | s :: l, x, v, hg, h => by
    have hs := hg s List.mem_cons_self
    unfold takes at h
    split at h
    · have hd : s.p * ((x - s.r) / s.p) ≤ x := Nat.le_trans (Nat.mul_div_le _ _) (Nat.sub_le _ _)
      rcases List.mem_cons.mp h with e | e
      · rw [e]
        exact Nat.le_trans (Nat.mul_le_mul_right _ hs.2.2.2.2) hd
      · have := taken_le l _ v (fun z hz => hg z (List.mem_cons_of_mem _ hz)) e
        exact Nat.le_trans this (Nat.le_trans (Nat.mul_le_mul_right _ (Nat.sub_le _ _)) hd)
    · cases h
end Uwm

end

section
set_option Elab.async false
set_option linter.all false
set_option maxRecDepth 100000
set_option maxHeartbeats 4000000
namespace Uws
open PySem
/-! ### a set's table: its places rise, it has no dummies, and it stays led -/
structure TabOk (t : SetTable) (L : Bool) : Prop where
  led : t.led = L
  dum : t.dummies = #[]
  ris : t.place.toList.Pairwise (· < ·)
def At (xs : Array Nat) (i : Nat) : Nat := xs.getD i 0
theorem at_lt {xs : Array Nat} (hp : xs.toList.Pairwise (· < ·)) {a b : Nat} (h : a < b) (hb : b < xs.size) : At xs a < At xs b := by
  have h1 := List.pairwise_iff_getElem.mp hp a b (by rw [Array.length_toList]; omega) (by rw [Array.length_toList]; exact hb) h
  unfold At
  rw [Array.getD_eq_getD_getElem?, Array.getD_eq_getD_getElem?, Array.getElem?_eq_getElem hb, Array.getElem?_eq_getElem (show a < xs.size by omega)]
  simpa using h1
theorem at_get {xs : Array Nat} {i : Nat} (h : i < xs.size) : xs[i]? = some (At xs i) := by
  unfold At
  rw [Array.getD_eq_getD_getElem?, Array.getElem?_eq_getElem h]
  rfl
theorem getD_at {xs : Array Nat} {i j : Nat} (h : i < xs.size) : xs.getD i j = At xs i := by
  unfold At
  rw [Array.getD_eq_getD_getElem?, Array.getD_eq_getD_getElem?, Array.getElem?_eq_getElem h]
  rfl
theorem go_spec {xs : Array Nat} {j : Nat} (hp : xs.toList.Pairwise (· < ·)) : ∀ fuel lo hi, hi ≤ xs.size → lo ≤ hi → hi - lo ≤ fuel → (∀ i, i < lo → At xs i < j) → (∀ i, hi ≤ i → i < xs.size → j ≤ At xs i) →
    SetTable.below.go xs j fuel lo hi ≤ xs.size ∧ (∀ i, i < SetTable.below.go xs j fuel lo hi → At xs i < j) ∧ ∀ i, SetTable.below.go xs j fuel lo hi ≤ i → i < xs.size → j ≤ At xs i := by
  intro fuel
  induction fuel with
  | zero =>
    intro lo hi h1 h2 h3 h4 h5
    have e : lo = hi := by omega
    subst e
    exact ⟨h1, h4, h5⟩
  | succ f ih =>
    intro lo hi h1 h2 h3 h4 h5
    unfold SetTable.below.go
    by_cases hlt : lo < hi
    · rw [if_pos hlt]
      dsimp only
      have hm : (lo + hi) / 2 < xs.size := by omega
      rw [getD_at hm]
      by_cases hc : At xs ((lo + hi) / 2) < j
      · rw [if_pos hc]
        refine ih _ _ h1 (by omega) (by omega) (fun i hi' => ?_) h5
        by_cases e : i = (lo + hi) / 2
        · rw [e]; exact hc
        · exact Nat.lt_trans (at_lt hp (show i < (lo + hi) / 2 by omega) hm) hc
      · rw [if_neg hc]
        refine ih _ _ (by omega) (by omega) (by omega) h4 (fun i hi' hs => ?_)
        by_cases e : i = (lo + hi) / 2
        · rw [e]; omega
        · have := at_lt hp (show (lo + hi) / 2 < i by omega) hs
          omega
    · rw [if_neg hlt]
      have e : lo = hi := by omega
      subst e
      exact ⟨h1, h4, h5⟩
theorem below_spec {xs : Array Nat} (hp : xs.toList.Pairwise (· < ·)) (j : Nat) :
    SetTable.below xs j ≤ xs.size ∧ (∀ i, i < SetTable.below xs j → At xs i < j) ∧ ∀ i, SetTable.below xs j ≤ i → i < xs.size → j ≤ At xs i := by
  unfold SetTable.below
  exact go_spec hp _ _ _ (Nat.le_refl _) (Nat.zero_le _) (by omega) (fun i h => by omega) (fun i h1 h2 => by omega)
theorem below_eq {xs : Array Nat} (hp : xs.toList.Pairwise (· < ·)) {j b : Nat} (hb : b ≤ xs.size) (h1 : ∀ i, i < b → At xs i < j) (h2 : ∀ i, b ≤ i → i < xs.size → j ≤ At xs i) : SetTable.below xs j = b := by
  obtain ⟨s1, s2, s3⟩ := below_spec hp j
  rcases Nat.lt_trichotomy (SetTable.below xs j) b with h | h | h
  · have a := h1 _ h
    have b := s3 _ (Nat.le_refl _) (by omega)
    omega
  · exact h
  · have a := s2 _ h
    have b := h2 _ (Nat.le_refl _) (by omega)
    omega
/-- where a walk stands after i turns -/
def slotAt (xs : Array Nat) : Nat → Nat
  | 0 => 0
  | i + 1 => At xs i + 1
theorem below_slot {xs : Array Nat} (hp : xs.toList.Pairwise (· < ·)) {i : Nat} (hi : i ≤ xs.size) : SetTable.below xs (slotAt xs i) = i := by
  cases i with
  | zero => exact below_eq hp hi (fun i h => by omega) (fun i _ _ => Nat.zero_le _)
  | succ n =>
    refine below_eq hp hi (fun i h => ?_) (fun i h hs => ?_)
    · show At xs i < At xs n + 1
      by_cases e : i = n
      · rw [e]; omega
      · have := at_lt hp (show i < n by omega) (show n < xs.size by omega)
        omega
    · show At xs n + 1 ≤ At xs i
      have := at_lt hp (show n < i by omega) hs
      omega
theorem has_nil (j : Nat) : SetTable.has #[] j = false := by
  unfold SetTable.has
  simp
theorem slot_empty {t : SetTable} (hp : t.place.toList.Pairwise (· < ·)) {j : Nat} (h : t.slot j = .empty) : j ∉ t.place.toList := by
  intro hm
  obtain ⟨k, hk, e⟩ := List.getElem_of_mem hm
  rw [Array.length_toList] at hk
  have ek : At t.place k = j := by
    unfold At
    rw [Array.getD_eq_getD_getElem?, Array.getElem?_eq_getElem hk]
    simpa using e
  have hb : SetTable.below t.place j = k := below_eq hp (by omega) (fun i hi => by rw [← ek]; exact at_lt hp hi hk) (fun i hi hs => by
    rw [← ek]
    by_cases e : i = k
    · rw [e]; exact Nat.le_refl _
    · exact Nat.le_of_lt (at_lt hp (by omega) hs))
  unfold SetTable.slot at h
  dsimp only at h
  rw [hb, at_get hk, ek] at h
  simp at h
theorem probe_empty {t : SetTable} (hd : t.dummies = #[]) {hs : Nat → Int} {h : Int} {j : Nat} {d : Option Nat} : ∀ (fuel : Nat) (p : SetTable.Probe), p.dummy = none → SetTable.probe.go t hs h fuel p = some (.empty j d) → d = none ∧ t.slot j = .empty := by
  intro fuel
  induction fuel with
  | zero =>
    intro p _ e
    unfold SetTable.probe.go at e
    cases e
  | succ f ih =>
    intro p hp e
    unfold SetTable.probe.go at e
    have adv : ∀ q : SetTable.Probe, (t.advance q).dummy = q.dummy := fun q => by
      unfold SetTable.advance
      split <;> rfl
    cases hs' : t.slot p.j with
    | empty =>
      rw [hs'] at e
      simp only [Option.some.injEq, SetTable.Met.empty.injEq] at e
      obtain ⟨e1, e2⟩ := e
      exact ⟨by rw [← e2]; exact hp, by rw [← e1]; exact hs'⟩
    | dummy =>
      exfalso
      unfold SetTable.slot at hs'
      dsimp only at hs'
      rw [hd, has_nil] at hs'
      split at hs'
      · cases hs'
      · simp at hs'
    | live i =>
      rw [hs'] at e
      dsimp only at e
      split at e
      · simp at e
      · exact ih _ ((adv p).trans hp) e
theorem free_slot {t : SetTable} (hd : t.dummies = #[]) {h : Int} {j : Nat} {b : Bool} (e : t.freeSlot h = some (j, b)) : t.slot j = .empty := by
  unfold SetTable.freeSlot SetTable.probe at e
  cases hp : SetTable.probe.go t (fun _ => h + 1) h (10 * SetTable.turns t.mask) (t.probeStart h) with
  | none => rw [hp] at e; simp at e
  | some m =>
    rw [hp] at e
    cases m with
    | candidate a b c => simp at e
    | empty k d =>
      obtain ⟨rfl, q⟩ := probe_empty hd _ _ rfl hp
      simp at e
      rw [← e.1]
      exact q
theorem ris_insert {xs : Array Nat} (hp : xs.toList.Pairwise (· < ·)) {j : Nat} (hj : j ∉ xs.toList) : (SetTable.insertAt xs (SetTable.below xs j) j).toList.Pairwise (· < ·) := by
  obtain ⟨s1, s2, s3⟩ := below_spec hp j
  rw [SetTable.toList_insertAt]
  have hsub := hp
  rw [← List.take_append_drop (SetTable.below xs j) xs.toList, List.pairwise_append] at hsub
  obtain ⟨p1, p2, p3⟩ := hsub
  rw [List.pairwise_append, List.pairwise_cons]
  have lo : ∀ a ∈ xs.toList.take (SetTable.below xs j), a < j := fun a ha => by
    obtain ⟨i, hi, e⟩ := List.getElem_of_mem ha
    rw [List.length_take, Array.length_toList] at hi
    have := s2 i (by omega)
    unfold At at this
    rw [Array.getD_eq_getD_getElem?, Array.getElem?_eq_getElem (show i < xs.size by omega)] at this
    rw [List.getElem_take] at e
    rw [← e]
    simpa using this
  have hi : ∀ b ∈ xs.toList.drop (SetTable.below xs j), j < b := fun b hb => by
    have hm := List.mem_of_mem_drop hb
    obtain ⟨i, hi, e⟩ := List.getElem_of_mem hb
    rw [List.length_drop, Array.length_toList] at hi
    have := s3 (SetTable.below xs j + i) (by omega) (by omega)
    unfold At at this
    rw [Array.getD_eq_getD_getElem?, Array.getElem?_eq_getElem (show SetTable.below xs j + i < xs.size by omega)] at this
    rw [List.getElem_drop] at e
    have e2 : j ≤ b := by rw [← e]; simpa using this
    rcases Nat.lt_or_eq_of_le e2 with q | q
    · exact q
    · exact absurd (q ▸ hm) hj
  refine ⟨p1, ⟨hi, p2⟩, fun a ha b hb => ?_⟩
  rcases List.mem_cons.mp hb with e | e
  · rw [e]; exact lo a ha
  · exact p3 a ha b e
theorem TabOk.standIn {t : SetTable} {L : Bool} (h : TabOk t L) (n : Nat) : TabOk (t.standIn n) L := by
  refine ⟨h.led, rfl, ?_⟩
  show (Array.range n).toList.Pairwise (· < ·)
  rw [Array.toList_range]
  exact List.pairwise_lt_range
theorem TabOk.lay {t : SetTable} {L : Bool} (h : TabOk t L) (es : Array (Int × Value)) (k : Int) (x : Value) : TabOk (layNew t es k x).2.1 L := by
  unfold layNew
  split
  · rename_i j b e
    have hs := free_slot h.dum e
    have hn := slot_empty h.ris hs
    have hput : TabOk (t.put j).1 L := by
      refine ⟨h.led, ?_, ris_insert h.ris hn⟩
      show (if SetTable.has t.dummies j = true then _ else t.dummies) = #[]
      rw [h.dum, has_nil, if_neg (by decide)]
    show TabOk (SetTable.orStandIn (t.put j).1 _) L
    unfold SetTable.orStandIn
    split
    · exact hput
    · exact hput.standIn _
  · exact h.standIn _
theorem TabOk.relay {t : SetTable} {L : Bool} (h : TabOk t L) (es : Array (Int × Value)) (wanted : Nat) : TabOk (relayAll t es wanted).2.1 L := by
  unfold relayAll
  split
  · rename_i t' order e
    dsimp only
    split
    · show TabOk t' L
      unfold SetTable.relaid SetTable.laid at e
      cases ho : SetTable.layClean (SetTable.sizeAbove wanted - 1) (es.map (·.1)) with
      | none => rw [ho] at e; cases e
      | some owner =>
        rw [ho] at e
        cases e
        refine ⟨h.led, rfl, ?_⟩
        show ((((List.range (SetTable.sizeAbove wanted - 1 + 1)).filterMap fun j => (owner.getD j none).map (j, ·)).map (·.1)).toArray).toList.Pairwise (· < ·)
        rw [List.toList_toArray, List.pairwise_map, List.pairwise_filterMap]
        refine List.pairwise_lt_range.imp fun {a b} hab x hx y hy => ?_
        simp only [Option.map_eq_some_iff] at hx hy
        obtain ⟨_, _, rfl⟩ := hx
        obtain ⟨_, _, rfl⟩ := hy
        exact hab
    · exact h.standIn _
  · exact h.standIn _
theorem TabOk.fresh (L : Bool) : TabOk (.fresh 0 0 L) L := ⟨rfl, rfl, List.Pairwise.nil⟩
theorem TabOk.unplain {t : SetTable} {L : Bool} (h : TabOk t L) (b : Bool) : TabOk (if b = true then t else { t with plain := false }) L := by
  split
  · exact h
  · exact ⟨h.led, h.dum, h.ris⟩
end Uws

end

section
set_option Elab.async false
set_option linter.all false
set_option maxRecDepth 100000
set_option maxHeartbeats 4000000
namespace Uws
open PySem PyProof.Rows
def iv : Value → Int
  | .int n _ => n
  | _ => 0
def keysOf (l : List (Int × Value)) : List Int := l.map fun e => iv e.2
structure SetBody (P : Program) (w : World) (es : Array (Int × Value)) (t : SetTable) (L : Bool) (ns : List Int) : Prop where
  el : ElemsOf (PySem.intKind P w) es.toList
  nd : (keysOf es.toList).Nodup
  me : ∀ x, x ∈ keysOf es.toList ↔ x ∈ ns
  sz : es.size ≤ ns.length
  fi : t.fits es.size = true
  ta : TabOk t L
/-- a set of ints, with its table -/
def SetD (P : Program) (w : World) (o : Obj) (L : Bool) (ns : List Int) : Prop := o.ExactSet ∧ ∃ es ep t, o.data = .set es ep t ∧ SetBody P w es t L ns
theorem is_int {P : Program} {w : World} {k : Int} {v : Value} (h : (PySem.intKind P w).is k v = true) : ∃ t, v = .int k t := Value.isInt_shape h
theorem is_iv {P : Program} {w : World} {l : List (Int × Value)} (h : ElemsOf (PySem.intKind P w) l) {e : Int × Value} (he : e ∈ l) (k : Int) : (PySem.intKind P w).is k e.2 = true ↔ iv e.2 = k := by
  obtain ⟨⟨k', hk, _⟩, _⟩ := h e he
  obtain ⟨t, e2⟩ := is_int hk
  rw [e2]
  constructor
  · intro q
    obtain ⟨t', e3⟩ := is_int q
    cases e3
    rfl
  · intro q
    have q : k' = k := q
    rw [q]
    exact intKind_is _ _ _ _
theorem keys_perm {l l' : List (Int × Value)} (h : l'.Perm l) : (keysOf l').Perm (keysOf l) := h.map _
theorem body_add {P : Program} {w : World} {es : Array (Int × Value)} {t : SetTable} {L : Bool} {ns : List Int} (B : SetBody P w es t L ns) {k : Int} {tk : Tok} (hk : k ∉ keysOf es.toList) :
    SetBody P w (layNew t es ((PySem.intKind P w).hash k) (.int k tk)).1 (layNew t es ((PySem.intKind P w).hash k) (.int k tk)).2.1 L (ns ++ [k]) := by
  have p := layNew_perm t es ((PySem.intKind P w).hash k) (.int k tk)
  rw [Array.toList_push] at p
  have q := keys_perm p
  have e : keysOf (es.toList ++ [((PySem.intKind P w).hash k, Value.int k tk)]) = keysOf es.toList ++ [k] := by
    unfold keysOf
    rw [List.map_append]
    rfl
  rw [e] at q
  refine ⟨(B.el.push (intKind_is _ _ _ _) rfl).perm p, ?_, fun x => ?_, ?_, layNew_fits .., B.ta.lay _ _ _⟩
  · rw [q.nodup_iff, List.nodup_append]
    refine ⟨B.nd, List.nodup_cons.mpr ⟨by simp, List.nodup_nil⟩, fun a ha b hb => ?_⟩
    rw [List.mem_singleton] at hb
    subst hb
    intro e
    subst e
    exact hk ha
  · rw [q.mem_iff, List.mem_append, List.mem_append, B.me x]
  · have h1 := p.length_eq
    rw [Array.length_toList, List.length_append, Array.length_toList, List.length_singleton] at h1
    rw [h1, List.length_append, List.length_singleton]
    have := B.sz
    omega
theorem body_relay {P : Program} {w : World} {es : Array (Int × Value)} {t : SetTable} {L : Bool} {ns : List Int} (B : SetBody P w es t L ns) (n : Nat) :
    SetBody P w (relayAll t es n).1 (relayAll t es n).2.1 L ns := by
  have p := relayAll_perm t es n
  have q := keys_perm p
  refine ⟨B.el.perm p, q.nodup_iff.mpr B.nd, fun x => (q.mem_iff).trans (B.me x), ?_, relayAll_fits .., B.ta.relay _ _⟩
  have h1 := p.length_eq
  rw [Array.length_toList, Array.length_toList] at h1
  rw [h1]
  exact B.sz
theorem stored {h : Heap} {a : Addr} {o : Obj} {es : Array (Int × Value)} {ep : Nat} {t : SetTable} (ho : h.get? a = some o) (hd : o.data = .set es ep t) (es' : Array (Int × Value)) (t' : SetTable) :
    (h.update a (Obj.putSet es' t')).get? a = some { o with data := .set es' (ep + 1) t' } := by
  have q := Heap.get?_update_self (Obj.putSet es' t') ho (by rw [putSet_of es' t' hd]; rfl)
  rwa [putSet_of es' t' hd] at q
section
variable {P : Program} {w : World} {A : Around} {E : Value → Shared → Prop} {s : Shared}
theorem tail_int {g : Bool → Sem Unit} (hg : ∀ (b : Bool) (s1 : Shared) (R : Unit → Shared → Prop), R () s1 → wpAny (model P w) A (g b) R E s1)
    {a : Addr} {o : Obj} {es : Array (Int × Value)} {ep : Nat} {t : SetTable} (ho : s.heap.get? a = some o) (ex : o.ExactSet) (hd : o.data = .set es ep t)
    {es1 : Array (Int × Value)} {t2 : SetTable} {L : Bool} {ns : List Int} (B : SetBody P w es1 t2 L ns) (hb : ns.length < scanBound) {wd : Bool} {R : Option Bool → Shared → Prop}
    (h : ∀ h' o', Heap.SameBut a s.heap h' → h'.get? a = some o' → SetD P w o' L ns → R (some true) { s with heap := h' }) :
    wpAny (model P w) A (do
        storeSet a es1 t2
        if (!wd && t2.tooFull) = true then do
            g (relayAll t2 es1 (SetTable.grown es1.size)).2.2
            storeSet a (relayAll t2 es1 (SetTable.grown es1.size)).1 (relayAll t2 es1 (SetTable.grown es1.size)).2.1
            pure (some true)
          else pure (some true)) R E s := by
  have z1 : es1.size < scanBound := Nat.lt_of_le_of_lt B.sz hb
  refine wpAny_bind (wpAny_storeSet_of ho hd ?_ (fits_of_scanBound z1))
  have o1 := stored ho hd es1 t2
  have b1 := Heap.SameBut.update s.heap a (Obj.putSet es1 t2)
  split
  · have B2 := body_relay B (SetTable.grown es1.size)
    have z2 : (relayAll t2 es1 (SetTable.grown es1.size)).1.size < scanBound := Nat.lt_of_le_of_lt B2.sz hb
    refine wpAny_bind (hg _ _ _ (wpAny_bind (wpAny_storeSet_of o1 rfl (wpAny_pure ?_) (fits_of_scanBound z2))))
    exact h _ _ (b1.trans (Heap.SameBut.update _ a _)) (stored o1 rfl _ _) ⟨ex, _, _, _, rfl, B2⟩
  · exact wpAny_pure (h _ _ b1 o1 ⟨ex, _, _, _, rfl, B⟩)
theorem add_int {a : Addr} {o : Obj} {L : Bool} {ns : List Int} {k : Int} {tk : Tok} {Q : Bool → Shared → Prop} (ho : s.heap.get? a = some o) (D : SetD P w o L ns) (hb : ns.length + 1 < scanBound)
    (h : ∀ h' o' b, Heap.SameBut a s.heap h' → h'.get? a = some o' → SetD P w o' L (ns ++ [k]) → Q b { s with heap := h' }) :
    wpAny (model P w) A (setAddHashed a (.int k tk) ((PySem.intKind P w).hash k)) Q E s := by
  obtain ⟨ex, es, ep, t, hd, B⟩ := D
  have z0 : es.size < scanBound := by have := B.sz; omega
  unfold setAddHashed setAddHashedIn
  refine wpAny_holding (wpAny_bind (wpAny_setState_of ho hd B.fi ?_))
  dsimp only; rw [byScan_of (knd := PySem.intKind P w) rfl z0 B.el]
  simp only [↓reduceIte]; unfold setAddByScan
  refine wpAny_bind (wpAny_bind (wpAny_rule (wpAny_bind (wpAny_setScan_of (knd := PySem.intKind P w) (k := k) (intKind_is _ _ _ _) ho hd B.fi B.el ?_))))
  cases hr : List.findIdx? (fun e => (PySem.intKind P w).is k e.2) es.toList with
  | some j =>
    obtain ⟨hj, hpj, _⟩ := List.findIdx?_eq_some_iff_getElem.mp hr
    have hk : k ∈ keysOf es.toList := List.mem_map.mpr ⟨es.toList[j], List.getElem_mem hj, (is_iv B.el (List.getElem_mem hj) k).mp hpj⟩
    dsimp only; refine wpAny_pure (wpAny_pure ?_)
    have e : s = { s with heap := s.heap } := by cases s; rfl
    rw [e]
    refine h s.heap o _ (Heap.SameBut.refl a s.heap) ho ⟨ex, es, ep, t, hd, B.el, B.nd, fun x => ?_, ?_, B.fi, B.ta⟩
    · rw [List.mem_append, List.mem_singleton, ← B.me x]
      exact ⟨.inl, fun q => q.elim id fun e => e ▸ hk⟩
    · have := B.sz
      rw [List.length_append]
      omega
  | none =>
    have hk : k ∉ keysOf es.toList := fun hm => by
      obtain ⟨e, he, q⟩ := List.mem_map.mp hm
      have := List.findIdx?_eq_none_iff.mp hr e he
      rw [(is_iv B.el he k).mpr q] at this
      cases this
    have gw : ∀ (b : Bool) (s1 : Shared) (R : Unit → Shared → Prop), R () s1 → wpAny (model P w) A (match b with | true => rule "set.scan.the-table-gave-way" | false => pure ()) R E s1 :=
      fun b s1 R q => by cases b <;> first | exact wpAny_pure q | exact wpAny_rule q
    have B1 := body_add (tk := tk) B hk
    dsimp only
    generalize layNew t es ((PySem.intKind P w).hash k) (.int k tk) = N at B1 ⊢
    obtain ⟨es1, t1, wd, gv⟩ := N
    dsimp only at B1 ⊢
    have hb1 : (ns ++ [k]).length < scanBound := by rw [List.length_append]; exact hb
    refine wpAny_bind (gw _ _ _ ?_)
    have fin : ∀ h' o', Heap.SameBut a s.heap h' → h'.get? a = some o' → SetD P w o' L (ns ++ [k]) → wpAny (model P w) A (pure true) Q E { s with heap := h' } := fun h' o' q1 q2 q3 => wpAny_pure (h h' o' _ q1 q2 q3)
    split
    · refine wpAny_bind ?_
      rw [hashByValue_scannable 8 rfl]
      refine wpAny_pure (tail_int (fun b s1 R q => gw b s1 R q) ho ex hd B1 hb1 ?_)
      intro h' o' q1 q2 q3; exact fin h' o' q1 q2 q3
    · refine wpAny_bind (wpAny_pure ?_)
      simp only [↓reduceIte]
      refine tail_int (fun b s1 R q => gw b s1 R q) ho ex hd B1 hb1 ?_
      intro h' o' q1 q2 q3; exact fin h' o' q1 q2 q3
end
section
variable {P : Program} {w : World} {A : Around} {R : Result → Shared → Prop} {I : Addr} {fp wr : List Addr} {G : Array GenState → Array GenState → Prop} {n : Nat} {Pv : Nat → Value → Prop} {St : Nat → Shared → Prop}
theorem loop_int (W : WalksS P w A.in1 I fp wr G n Pv St) (S : Addr) (hSf : S ∉ fp) (L : Bool) (val : Nat → Int) (hval : ∀ i v, Pv i v → ∃ t, v = .int (val i) t) (hb : n + 1 < scanBound) :
    ∀ (k i : Nat) (s : Shared), n - i = k → i ≤ n → St i s → (∃ o, s.heap.get? S = some o ∧ SetD P w o L ((List.range i).map val)) →
      (∀ s', Moved (S :: wr) G s s' → (∃ o, s'.heap.get? S = some o ∧ SetD P w o L ((List.range n).map val)) → R (.ok (.ret .none)) s') →
      codeAny (model P w) A (.builtin "set.update.loop" ⟨[.ref S, .ref I], []⟩) R s := by
  have nw : S ∉ wr := fun q => hSf (W.sub _ q)
  have up : ∀ b ∈ wr, b ∈ S :: wr := fun b q => List.mem_cons_of_mem _ q
  intro k
  induction k with
  | zero =>
    intro i s hk hi st hS hR
    have e : i = n := by omega
    subst e
    refine codeAny_builtin PyProof.Rows.F.entry_set_update_loop ?_; rw [Around.under_plainId PyProof.Rows.F.plain_set_update_loop _]
    show wpAny _ A.in1 (pyNext (.ref I) >>= _) _ _ s; refine wpAny_bind (W.done s _ _ st fun s' m => ?_)
    show wpAny _ A.in1 (ret Value.none) _ _ s'
    obtain ⟨o, ho, D⟩ := hS
    exact wpAny_pure (hR s' (m.mono up) ⟨o, m.heap S _ nw ho, D⟩)
  | succ k ih =>
    intro i s hk hi st hS hR
    have lt : i < n := by omega
    refine codeAny_builtin PyProof.Rows.F.entry_set_update_loop ?_; rw [Around.under_plainId PyProof.Rows.F.plain_set_update_loop _]
    show wpAny _ A.in1 (pyNext (.ref I) >>= _) _ _ s; refine wpAny_bind (W.item i s _ _ lt st fun v s' hP st' m => ?_)
    obtain ⟨t, rfl⟩ := hval i v hP
    obtain ⟨o, ho, D⟩ := hS
    have ho' := m.heap S _ nw ho
    show wpAny _ A.in1 (holding [Value.int (val i) t] (setAdd S (.int (val i) t)) >>= _) _ _ s'; refine wpAny_bind (wpAny_holding ?_)
    unfold setAdd; refine wpAny_holding (wpAny_bind ((PySem.intKind P w).pyHash (k := val i) (intKind_is _ _ _ _) ?_))
    have room : ((List.range i).map val).length + 1 < scanBound := by rw [List.length_map, List.length_range]; omega
    refine add_int (s := { s' with toks := s'.toks + 1 }) ho' D room fun h' o' b q1 q2 q3 => ?_
    have e : (List.range i).map val ++ [val i] = (List.range (i + 1)).map val := by rw [List.range_succ, List.map_append]; rfl
    rw [e] at q3
    refine wpAny_pure ⟨plainId_quiet PyProof.Rows.F.plain_set_update_loop _, ih (i + 1) _ (by omega) lt (W.frame _ s' _ _ st' (Nat.le_succ _) fun c hc o e => ?_) ⟨o', q2, q3⟩ fun s'' m2 D2 => ?_⟩
    · rw [q1.2 c (fun z : c = S => hSf (by rw [← z]; exact hc))]; exact e
    · refine hR s'' (Moved.trans W.gtrans ((m.mono up).then_heap (Nat.le_succ _) fun c o hc e => ?_) m2) D2
      rw [q1.2 c (fun z : c = S => hc (by rw [z]; exact List.mem_cons_self))]; exact e
end
end Uws

end

section
set_option Elab.async false
set_option linter.all false
set_option maxRecDepth 100000
set_option maxHeartbeats 4000000
namespace Uws
open PySem PyProof.Rows
/-- whether a new set is led -/
abbrev ledOf (w : World) : Bool := !w.params.followText "set-order"
abbrev newSetObj (w : World) : Obj := { cls := .type "set", dict := none, data := .set #[] 0 (.fresh 0 0 (ledOf w)) }
section
variable {P : Program} {w : World} {A : Around} {E : Value → Shared → Prop} {s : Shared}
theorem new_set (a : Value) {R : Value → Shared → Prop} (h : R (.ref s.heap.objs.size) { s with heap := s.heap.push (newSetObj w) }) :
    codeAny (model P w) A (.call (.builtin "set.__new__") ⟨[.type "set", a], []⟩) (wants R E) s := by
  refine codeAny_of_tree ?_
  show wpAny _ A.in1 (do checkBuiltinCall "set.__new__" ⟨[.type "set", a], []⟩; again (.builtin "set.__new__" ⟨[.type "set", a], []⟩)) _ _ s; refine wpAny_bind (wpAny_of_eq (PySem.F.newCall_set_1 a) (wpAny_pure ⟨plainId_quiet F.plain_set_new _, codeAny_builtin F.entry_set_new ?_⟩))
  rw [Around.under_plainId F.plain_set_new _]; unfold Builtin.«set.__new__» Builtin.Frozenset.newClass
  have hsub := sub_set_self
  obtain ⟨hp, g, d, tk, os⟩ := s
  dsimp only; wp_walk
  refine wpAny_askSetting (wpAny_pure ?_)
  dsimp only; simp only [newObj]
  refine wpAny_bind (wpAny_alloc (wpAny_pure ?_))
  exact wpAny_pure h
set_option maxHeartbeats 8000000 in
theorem call_set {l : Addr} {items : Array Value} {ns : List Int} {Q : Value → Shared → Prop} (hh : A.handled = none) (hl : s.heap.IsList l items) (hi : IntsAre items.toList ns) (hb : items.size + 1 < scanBound)
    (h : ∀ (h' : Heap) (tk : Nat), (∃ o, h'.get? s.heap.objs.size = some o ∧ SetD P w o (ledOf w) ((List.range items.size).map fun i => ns.getD i 0)) →
      (∀ b o, b < s.heap.objs.size → s.heap.get? b = some o → h'.get? b = some o) → Q (.ref s.heap.objs.size) { s with heap := h', toks := tk }) :
    wpAny (model P w) A (call (.type "set") [.ref l]) Q E s := by
  obtain ⟨c, tl, hmro⟩ := F.called_set.mro
  have hmade := F.called_set.made
  have hsub := F.called_set.sub
  refine wpAny_call (codeAny_of_tree ?_); show wpAny _ _ (callAny (.type "set") _) _ _ _
  refine wpAny_pure ⟨Code.quiet_builtin _ (by decide +kernel), codeAny_builtin F.entry_type_call ?_⟩; rw [Around.under_plain (weight_type_call_type "set" [.ref l] []) rfl]
  have h1 := F.called_set.notType
  have h2 := F.called_set.canCreate
  have hct := F.typeCall_set_1 (.ref l)
  repeat (any_goals (first | assumption | wp_step))
  refine codeAny_mono (new_set (.ref l) (E := E) (R := fun obj s1 => obj = .ref s.heap.objs.size ∧ s1 = { s with heap := s.heap.push (newSetObj w) }) ⟨rfl, rfl⟩) fun r s1 hr => ?_
  cases r with
  | error e => exact hr
  | ok fl =>
    cases fl with
    | ret obj =>
      obtain ⟨rfl, rfl⟩ := hr
      have hS : (s.heap.push (newSetObj w)).get? s.heap.objs.size = some (newSetObj w) := Heap.get?_push_size _ rfl
      have hT : Shared.TypeIs { s with heap := s.heap.push (newSetObj w) } (.ref s.heap.objs.size) "set" := ⟨_, hS, rfl⟩
      have hli := F.called_set.init.lookup
      have hbi := F.called_set.init.bind (.ref s.heap.objs.size)
      repeat (any_goals (first | assumption | wp_step))
      refine codeAny_mono (codeAny_call_builtin (R := wants (fun r s2 => r = .none ∧ ∃ h' tk, s2 = { s with heap := h', toks := tk } ∧ (∃ o, h'.get? s.heap.objs.size = some o ∧ SetD P w o (ledOf w) ((List.range items.size).map fun i => ns.getD i 0)) ∧
          (∀ b o, b < s.heap.objs.size → s.heap.get? b = some o → h'.get? b = some o)) E) F.called_set.init.plain F.entry_set_init (check_set_init_1 hT ?_)) fun r2 s2 hr2 => ?_
      · obtain ⟨ol, hol, hcl, nl, hdl⟩ := hl
        obtain ⟨ocls, odict, odata, oslots⟩ := ol
        simp only at hcl hdl
        subst hcl; subst hdl
        have hol' : (s.heap.push (newSetObj w)).get? l = some { cls := .type "list", dict := odict, data := .seq items nl, slots := oslots } := Heap.get?_push_of_some _ hol
        have hsls := F.sub_list_set
        have hslf := F.sub_list_frozenset
        have hne : (Value.type "list" == Value.type "dict") = false := by decide
        have hl1 : (s.heap.push (newSetObj w)).IsList l items := ⟨_, hol', rfl, nl, rfl⟩
        unfold Builtin.«set.__init__» noKeywords Builtin.Frozenset.updateFrom
        generalize hPI : pyIter = PI
        wp_walk
        subst hPI
        refine wpAny_pyIter_list hl1 (wpAny_bind (wpAny_runValue ?_))
        have hlS : l < s.heap.objs.size := Heap.lt_size hol
        have hh3 : A.in1.in1.in1.handled = none := by simp [hh]
        have hneI : l ≠ (s.heap.push (newSetObj w)).objs.size := by
          rw [Heap.size_push]; exact Nat.ne_of_lt (Nat.lt_succ_of_lt hlS)
        have hSf : s.heap.objs.size ∉ [(s.heap.push (newSetObj w)).objs.size, l] := by
          rw [Heap.size_push]; simp only [List.mem_cons, List.mem_singleton, List.not_mem_nil, or_false, not_or]
          exact ⟨Nat.ne_of_lt (Nat.lt_succ_self _), Nat.ne_of_gt hlS⟩
        have hval : ∀ (i : Nat) (v : Value), items[i]? = some v → ∃ t, v = .int ((fun i => ns.getD i 0) i) t := fun i v hv => IntsAre.int_at hi i v (by rw [Array.getElem?_toList]; exact hv)
        refine loop_int ((Walks.list hh3 _ l hneI items).toS) s.heap.objs.size hSf (ledOf w) (fun i => ns.getD i 0) hval hb (items.size - 0) 0 _ (by omega) (Nat.zero_le _) ⟨⟨_, Heap.get?_push_size _ rfl, rfl, rfl⟩, (hl1.push _)⟩ ?hS0 ?hR
        case hS0 =>
          have hget : ((s.heap.push (newSetObj w)).push { cls := .type "list_iterator", data := .fields #[.ref l, .int 0 0] }).get? s.heap.objs.size = some (newSetObj w) := Heap.get?_push_of_some _ hS
          refine ⟨_, hget, ⟨rfl, rfl, rfl⟩, #[], 0, _, rfl, ⟨fun e he => by simp at he, List.nodup_nil, fun x => by simp [keysOf], Nat.zero_le _, rfl, TabOk.fresh _⟩⟩
        case hR =>
          intro s' hm hS'
          obtain ⟨h', g', d', tk', os'⟩ := s'
          have eg : g' = s.gens := hm.gens
          have ed : d' = s.drawn := hm.drawn
          have eo : os' = s.os := hm.os
          subst eg; subst ed; subst eo
          show wpAny _ _ _ _ _ _; refine wpAny_pure ?_
          show wpAny _ _ (ret Value.none) _ _ _; refine wpAny_pure ⟨rfl, h', tk', rfl, hS', fun b o hb e => ?_⟩
          have hb1 : b ≠ s.heap.objs.size := Nat.ne_of_lt hb
          have hb2 : b ≠ (s.heap.push (newSetObj w)).objs.size := by rw [Heap.size_push]; exact Nat.ne_of_lt (Nat.lt_succ_of_lt hb)
          exact hm.heap b o (by simp only [List.mem_cons, List.mem_singleton, List.not_mem_nil, or_false, not_or]; exact ⟨hb1, hb2⟩) (Heap.get?_push_of_some _ (Heap.get?_push_of_some _ e))
      · cases r2 with
        | error e => exact hr2
        | ok fl2 =>
          cases fl2 with
          | ret r =>
            obtain ⟨rfl, h', tk, rfl, hS', hk'⟩ := hr2
            repeat (any_goals (first | assumption | wp_step))
            exact h _ _ hS' hk'
          | _ => exact hr2.elim
    | _ => exact hr.elim
end
end Uws

end

section
set_option Elab.async false
set_option linter.all false
set_option maxRecDepth 100000
set_option maxHeartbeats 4000000
namespace Uws
open PySem PyProof.Rows
theorem slot_next : Slot "set_iterator" "__next__" "set_iterator.__next__" :=
  Slot.of (owner := "set_iterator") (n := "__next__") (by rw [typeLookup_type, builtinLookup_eq_fast]; kernel_rfl) (by decide +kernel) (by decide +kernel) (by decide +kernel)
    (by first | exact .inl (by decide +kernel) | exact .inr (by decide +kernel)) (by rw [isSubtype_type]; kernel_rfl)
theorem entry_next : entryFor table "set_iterator.__next__" = some Builtin.«set_iterator.__next__» := entryFor_of_fast (by kernel_rfl)
theorem args_next (a : Value) : argsOk "set_iterator.__next__" ⟨[a], []⟩ := by unfold argsOk; kernel_rfl
theorem entry_iter : entryFor table "set.__iter__" = some Builtin.«frozenset.__iter__» := entryFor_alias (id' := "frozenset.__iter__") (by kernel_rfl) rfl (by decide +kernel) (by kernel_rfl)
theorem look_len : typeLookup (.type "set") "__len__" = pure (some (.builtin "set.__len__")) := by rw [typeLookup_type, builtinLookup_eq_fast]; kernel_rfl
theorem perm_erase {α : Type} {l : List α} {i : Nat} (h : i < l.length) : (l[i] :: l.eraseIdx i).Perm l := by
  rw [List.eraseIdx_eq_take_drop_succ]
  have e : l.take i ++ l[i] :: l.drop (i + 1) = l := by rw [← List.drop_eq_getElem_cons h, List.take_append_drop]
  exact List.perm_middle.symm.trans (.of_eq e)
/-- an iterator over the set at S -/
abbrev itObj (first : Value) (i : Nat) (S : Value) (n ep : Nat) : Obj := { cls := .type "set_iterator", data := .fields #[first, .int i 0, S, .int n 0, .int ep 0] }
section
variable {P : Program} {w : World} {A : Around} {E : Value → Shared → Prop} {s : Shared}
/-- drawing an order -/
theorem draw_order {α : Type} : ∀ (n : Nat) (xs : List α) {s : Shared} {Q : List α → Shared → Prop}, xs.length = n → (∀ ys d, ys.Perm xs → Q ys { s with drawn := d }) → wpAny (model P w) A (drawOrder n xs) Q E s
  | 0, xs, s, Q, hl, h => by
    have e : xs = [] := List.length_eq_zero_iff.mp hl
    subst e
    unfold drawOrder
    exact wpAny_pure (h [] s.drawn (.refl _))
  | n + 1, [], s, Q, hl, h => by simp at hl
  | n + 1, x :: r, s, Q, hl, h => by
    unfold drawOrder
    intro Γ p hΓ
    show Sem.wp _ Γ (Sem.choose .order (x :: r).length _) _ _ p s
    rw [Sem.wp_choose]
    refine ⟨by simp, ?_⟩
    generalize hi : (model P w).w.draws .order (s.drawn.get .order) % (x :: r).length = i
    have hlt : i < (x :: r).length := by rw [← hi]; exact Nat.mod_lt _ (by simp)
    have key : wpAny (model P w) A (match (x :: r)[i]? with
      | some y => do return y :: (← drawOrder n ((x :: r).eraseIdx i))
      | none => unsupported "internal:drawOrder") Q E { s with drawn := s.drawn.bump .order } := by
      rw [List.getElem?_eq_getElem hlt]
      refine wpAny_bind (draw_order n _ (by rw [List.length_eraseIdx_of_lt hlt, hl]; omega) fun ys d hp => wpAny_pure ?_)
      exact h _ d ((hp.cons _).trans (perm_erase hlt))
    exact key Γ p hΓ
/-- what pyIter of a set gives -/
theorem iter_set {S : Addr} {o : Obj} {es : Array (Int × Value)} {ep : Nat} {t : SetTable} {Q : Value → Shared → Prop} (ho : s.heap.get? S = some o) (ex : o.ExactSet) (hd : o.data = .set es ep t) (hf : t.fits es.size = true)
    (h1 : ((w.params.followText "set-order" = true) ∨ (t.plain = true ∨ es.size ≤ 1)) → Q (.ref s.heap.objs.size) { s with heap := s.heap.push (itObj (.int 0 0) 0 (.ref S) es.size ep) })
    (h2 : ∀ (ps : List Nat) d, w.params.followText "set-order" = false → ps.Perm (List.range es.size) → Q (.ref (s.heap.objs.size + 1)) { s with drawn := d, heap := (s.heap.push (seqObj "tuple" (ps.map fun (i : Nat) => Value.int i 0).toArray 0)).push (itObj (.ref s.heap.objs.size) 0 (.ref S) es.size ep) }) (hz : es.size ≤ sizeLine) :
    wpAny (model P w) A (pyIter (.ref S)) Q E s := by
  have hT : s.TypeIs (.ref S) "set" := ⟨o, ho, ex.1⟩
  refine wpAny_pyIter_slot hT F.slot_set_iter (wpAny_call_entry F.slot_set_iter hT entry_iter ?_ (F.args_set_iter_1 _))
  unfold Builtin.«frozenset.__iter__»
  refine wpAny_bind (m := Builtin.Frozenset.slot0 "__iter__" _) (wpAny_pure ?_)
  unfold Builtin.Frozenset.sizeOf setDrawn setsByText
  refine wpAny_bind (wpAny_bind (wpAny_setEntries_of ho hd hf (wpAny_pure ?_)))
  refine wpAny_bind (wpAny_bind (wpAny_setState_of ho hd hf ?_))
  dsimp only
  refine wpAny_bind (wpAny_bind (wpAny_askSetting (wpAny_pure (wpAny_pure ?_))))
  show wpAny _ _ (if (!(w.params.followText "set-order") && (!t.plain && decide (es.size > 1))) = true then _ else _) _ _ s
  split
  · rename_i hc
    have hb : w.params.followText "set-order" = false := by
      cases e : w.params.followText "set-order" with
      | false => rfl
      | true => rw [e] at hc; cases hc
    refine wpAny_bind (draw_order _ _ List.length_range fun ps d hp => wpAny_bind (wpAny_newTuple ?_ (by rw [List.length_map, hp.length_eq, List.length_range]; exact hz)))
    refine wpAny_bind (wpAny_setEpoch_of (Heap.get?_push_of_some _ ho) hd hf ?_)
    refine wpAny_bind (wpAny_newObj_type (wpAny_pure ⟨_, rfl, "set_iterator", _, ⟨_, Heap.get?_push_size _ rfl, rfl⟩, slot_next.lookup, ?_⟩))
    have q := h2 ps d hb hp
    dsimp only
    rw [size_push']
    exact q
  · rename_i hc
    refine wpAny_bind (wpAny_pure (wpAny_bind (wpAny_setEpoch_of ho hd hf ?_)))
    refine wpAny_bind (wpAny_newObj_type (wpAny_pure ⟨_, rfl, "set_iterator", _, ⟨_, Heap.get?_push_size _ rfl, rfl⟩, slot_next.lookup, ?_⟩))
    refine h1 ?_
    cases e : w.params.followText "set-order" with
    | true => exact .inl rfl
    | false =>
      refine .inr ?_
      rw [e] at hc
      cases e2 : t.plain with
      | true => exact .inl rfl
      | false =>
        rw [e2] at hc
        refine .inr (Nat.not_lt.mp fun z => hc ?_)
        simpa using z
end
end Uws

end

section
set_option Elab.async false
set_option linter.all false
set_option maxRecDepth 100000
set_option maxHeartbeats 4000000
namespace Uws
open PySem PyProof.Rows
section
variable {P : Program} {w : World} {A : Around} {E : Value → Shared → Prop} {s : Shared}
/-- one turn of the iterator, by its slot -/
theorem next_slot {I S : Addr} {sl i ep n nx : Nat} {o : Obj} {es : Array (Int × Value)} {t : SetTable} {x : Value} {Q : Option Value → Shared → Prop} (hI : s.heap.get? I = some (itObj (.int sl 0) i (.ref S) n ep))
    (ho : s.heap.get? S = some o) (hd : o.data = .set es ep t) (hf : t.fits es.size = true) (hn : es.size = n)
    (hx : ∀ (R : Option (Value × Nat) → Shared → Prop) (E' : Value → Shared → Prop), R (some (x, nx)) s → wpAny (model P w) A.in1 (setNext S sl i ep) R E' s)
    (hQ : ∀ h', h'.get? I = some (itObj (.int nx 0) (i + 1) (.ref S) n ep) → Heap.SameBut I s.heap h' → Q (some x) { s with heap := h' }) : wpAny (model P w) A (pyNext (.ref I)) Q E s := by
  have hT : s.TypeIs (.ref I) "set_iterator" := ⟨_, hI, rfl⟩
  unfold pyNext
  refine wpAny_bind (wpAny_attempt (wpAny_callSpecial?_slot (name := Str.ofString "__next__") hT slot_next (wpAny_call_entry slot_next hT entry_next ?_ (args_next _))))
  unfold Builtin.«set_iterator.__next__»
  refine wpAny_bind (m := slotArgs "__next__" 0 _) (wpAny_pure ?_)
  dsimp only
  refine wpAny_bind (wpAny_fieldsOf hI rfl ?_)
  dsimp only
  refine wpAny_bind (wpAny_setEntries_of ho hd hf ?_)
  rw [if_neg (by rw [hn]; simp)]
  simp only [Int.toNat_natCast]
  refine wpAny_bind (hx _ _ ?_)
  dsimp only
  refine wpAny_bind (wpAny_setField_rec hI (by simp) fun h1 e1 b1 => ?_)
  refine wpAny_bind (wpAny_setField_rec (s := { s with heap := h1 }) e1 (by simp) fun h2 e2 b2 => ?_)
  exact wpAny_pure ⟨_, rfl, wpAny_pure (hQ h2 (by simpa [rawInt, itObj] using e2) (b1.trans b2))⟩
theorem next_slot_end {I S : Addr} {sl i ep n : Nat} {o : Obj} {es : Array (Int × Value)} {t : SetTable} {Q : Option Value → Shared → Prop} (hh : A.handled = none) (hI : s.heap.get? I = some (itObj (.int sl 0) i (.ref S) n ep))
    (ho : s.heap.get? S = some o) (hd : o.data = .set es ep t) (hf : t.fits es.size = true) (hn : es.size = n)
    (hx : ∀ (R : Option (Value × Nat) → Shared → Prop) (E' : Value → Shared → Prop), R none s → wpAny (model P w) A.in1 (setNext S sl i ep) R E' s)
    (hQ : ∀ h', Heap.ExtBut I s.heap h' → Q none { s with heap := h' }) : wpAny (model P w) A (pyNext (.ref I)) Q E s := by
  have hT : s.TypeIs (.ref I) "set_iterator" := ⟨_, hI, rfl⟩
  unfold pyNext
  refine wpAny_bind (wpAny_attempt (wpAny_callSpecial?_slot (name := Str.ofString "__next__") hT slot_next (wpAny_call_entry slot_next hT entry_next ?_ (args_next _))))
  unfold Builtin.«set_iterator.__next__»
  refine wpAny_bind (m := slotArgs "__next__" 0 _) (wpAny_pure ?_)
  dsimp only
  refine wpAny_bind (wpAny_fieldsOf hI rfl ?_)
  dsimp only
  refine wpAny_bind (wpAny_setEntries_of ho hd hf ?_)
  rw [if_neg (by rw [hn]; simp)]
  simp only [Int.toNat_natCast]
  refine wpAny_bind (hx _ _ ?_)
  dsimp only
  refine wpAny_bind (wpAny_setField hI rfl (by simp) ?_)
  show wpAny _ _ (newExc (.type "StopIteration") [] >>= _) _ _ _
  refine wpAny_bind ?_
  simp only [newExc, newTuple]
  refine wpAny_bind (wpAny_newObj_type ?_ (by size_fits))
  refine wpAny_bind (m := firstArgMember _ _) (wpAny_of_eq (a := Value.none) (by first | rfl | (simp only [firstArgMember]; rfl)) ?_)
  refine wpAny_newObj_type ?_ (by size_fits)
  simp only [raiseNew]
  refine wpAny_bind (wpAny_handled ?_)
  rw [show A.in1.handled = none from hh]
  refine wpAny_bind (wpAny_pure (wpAny_throw ?_))
  refine wpAny_bind (wpAny_isInstance (T := "StopIteration") (b := true) ⟨_, Heap.get?_push_size _ rfl, rfl⟩ isSubtype_stop ?_)
  exact wpAny_pure (hQ _ (((Heap.SameBut.update ..).extBut.push _).push _))
/-- one turn of the iterator, by a drawn order -/
theorem next_drawn {I S T : Addr} {i ep n p : Nat} {ps : List Nat} {o : Obj} {es : Array (Int × Value)} {t : SetTable} {e : Int × Value} {Q : Option Value → Shared → Prop} (hI : s.heap.get? I = some (itObj (.ref T) i (.ref S) n ep))
    (ht : s.heap.get? T = some (seqObj "tuple" (ps.map fun (i : Nat) => Value.int i 0).toArray 0)) (ho : s.heap.get? S = some o) (hd : o.data = .set es ep t) (hf : t.fits es.size = true) (hn : es.size = n) (hp : ps[i]? = some p) (hx : es[p]? = some e)
    (hQ : ∀ h', h'.get? I = some (itObj (.ref T) (i + 1) (.ref S) n ep) → Heap.SameBut I s.heap h' → Q (some e.2) { s with heap := h' }) : wpAny (model P w) A (pyNext (.ref I)) Q E s := by
  have hT : s.TypeIs (.ref I) "set_iterator" := ⟨_, hI, rfl⟩
  unfold pyNext
  refine wpAny_bind (wpAny_attempt (wpAny_callSpecial?_slot (name := Str.ofString "__next__") hT slot_next (wpAny_call_entry slot_next hT entry_next ?_ (args_next _))))
  unfold Builtin.«set_iterator.__next__»
  refine wpAny_bind (m := slotArgs "__next__" 0 _) (wpAny_pure ?_)
  dsimp only
  refine wpAny_bind (wpAny_fieldsOf hI rfl ?_)
  dsimp only
  refine wpAny_bind (wpAny_setEntries_of ho hd hf ?_)
  rw [if_neg (by rw [hn]; simp)]
  simp only [Int.toNat_natCast]
  refine wpAny_bind (wpAny_seqItems ht rfl ?_)
  dsimp only
  have hg : (ps.map fun (i : Nat) => Value.int i 0).toArray[i]? = some (Value.int p 0) := by
    rw [List.getElem?_toArray, List.getElem?_map, hp]; rfl
  rw [hg]
  dsimp only
  unfold setNextDrawn
  refine wpAny_bind (wpAny_bind (wpAny_setState_of ho hd hf ?_))
  dsimp only
  rw [if_neg (by simp)]
  simp only [Int.toNat_natCast, hx]
  refine wpAny_pure ?_
  refine wpAny_bind (wpAny_setField_rec hI (by simp) fun h1 e1 b1 => ?_)
  exact wpAny_pure ⟨_, rfl, wpAny_pure (hQ h1 (by simpa [rawInt, itObj] using e1) b1)⟩
theorem next_drawn_end {I S T : Addr} {i ep n : Nat} {ps : List Nat} {o : Obj} {es : Array (Int × Value)} {t : SetTable} {Q : Option Value → Shared → Prop} (hh : A.handled = none) (hI : s.heap.get? I = some (itObj (.ref T) i (.ref S) n ep))
    (ht : s.heap.get? T = some (seqObj "tuple" (ps.map fun (i : Nat) => Value.int i 0).toArray 0)) (ho : s.heap.get? S = some o) (hd : o.data = .set es ep t) (hf : t.fits es.size = true) (hn : es.size = n) (hp : ps[i]? = none)
    (hQ : ∀ h', Heap.ExtBut I s.heap h' → Q none { s with heap := h' }) : wpAny (model P w) A (pyNext (.ref I)) Q E s := by
  have hT : s.TypeIs (.ref I) "set_iterator" := ⟨_, hI, rfl⟩
  unfold pyNext
  refine wpAny_bind (wpAny_attempt (wpAny_callSpecial?_slot (name := Str.ofString "__next__") hT slot_next (wpAny_call_entry slot_next hT entry_next ?_ (args_next _))))
  unfold Builtin.«set_iterator.__next__»
  refine wpAny_bind (m := slotArgs "__next__" 0 _) (wpAny_pure ?_)
  dsimp only
  refine wpAny_bind (wpAny_fieldsOf hI rfl ?_)
  dsimp only
  refine wpAny_bind (wpAny_setEntries_of ho hd hf ?_)
  rw [if_neg (by rw [hn]; simp)]
  simp only [Int.toNat_natCast]
  refine wpAny_bind (wpAny_seqItems ht rfl ?_)
  dsimp only
  have hg : (ps.map fun (i : Nat) => Value.int i 0).toArray[i]? = none := by
    rw [List.getElem?_toArray, List.getElem?_map, hp]; rfl
  rw [hg]
  dsimp only
  refine wpAny_bind (wpAny_setField_rec hI (by simp) fun h1 e1 b1 => ?_)
  refine wpAny_bind (wpAny_setField (s := { s with heap := h1 }) e1 rfl (by simp) ?_)
  show wpAny _ _ (newExc (.type "StopIteration") [] >>= _) _ _ _
  refine wpAny_bind ?_
  simp only [newExc, newTuple]
  refine wpAny_bind (wpAny_newObj_type ?_ (by size_fits))
  refine wpAny_bind (m := firstArgMember _ _) (wpAny_of_eq (a := Value.none) (by first | rfl | (simp only [firstArgMember]; rfl)) ?_)
  refine wpAny_newObj_type ?_ (by size_fits)
  simp only [raiseNew]
  refine wpAny_bind (wpAny_handled ?_)
  rw [show A.in1.handled = none from hh]
  refine wpAny_bind (wpAny_pure (wpAny_throw ?_))
  refine wpAny_bind (wpAny_isInstance (T := "StopIteration") (b := true) ⟨_, Heap.get?_push_size _ rfl, rfl⟩ isSubtype_stop ?_)
  exact wpAny_pure (hQ _ (((b1.trans (Heap.SameBut.update ..)).extBut.push _).push _))
/-- setNext where the slots are walked -/
theorem setNext_slots {S : Addr} {i ep : Nat} {o : Obj} {es : Array (Int × Value)} {t : SetTable} {R : Option (Value × Nat) → Shared → Prop} (ho : s.heap.get? S = some o) (hd : o.data = .set es ep t) (hf : t.fits es.size = true)
    (hT : TabOk t true) (hw : w.params.followText "set-order" = false) (hp : t.plain = true ∨ es.size ≤ 1) (hi : i ≤ es.size)
    (h : R (match es[i]? with | some e => some (e.2, At t.place i + 1) | none => none) s) : wpAny (model P w) A (setNext S (slotAt t.place i) i ep) R E s := by
  have hsz : t.place.size = es.size := by
    unfold SetTable.fits at hf
    simp only [Bool.and_eq_true, beq_iff_eq] at hf
    exact hf.1
  unfold setNext setsByText
  refine wpAny_bind (wpAny_setState_of ho hd hf ?_)
  dsimp only
  refine wpAny_bind (wpAny_bind (wpAny_askSetting (wpAny_pure ?_)))
  show wpAny _ _ (if w.params.followText "set-order" = true then _ else _) _ _ s
  rw [hw, if_neg (by decide)]
  show wpAny _ _ (if (!t.plain && decide (es.size > 1)) = true then _ else _) _ _ s
  rw [if_neg (by
    rcases hp with e | e
    · rw [e]; simp
    · rw [decide_eq_false (by omega)]; simp)]
  refine wpAny_bind ?_
  show wpAny _ _ (if (!t.led && !es.isEmpty) = true then _ else _) _ _ s
  rw [if_neg (by rw [hT.led]; simp)]
  refine wpAny_pure ?_
  rw [below_slot hT.ris (by omega)]
  refine wpAny_pure ?_
  by_cases hlt : i < es.size
  · rw [Array.getElem?_eq_getElem hlt] at h ⊢
    rw [at_get (show i < t.place.size by omega)]
    exact h
  · rw [Array.getElem?_eq_none (by omega)] at h ⊢
    exact h
/-- setNext where a world by text tells the order -/
theorem setNext_text {S : Addr} {i ep : Nat} {o : Obj} {es : Array (Int × Value)} {t : SetTable} {R : Option (Value × Nat) → Shared → Prop} (ho : s.heap.get? S = some o) (hd : o.data = .set es ep t) (hf : t.fits es.size = true)
    (hw : w.params.followText "set-order" = true) (h : R (((pickOrder (w.params.setOrder S ep) es)[i]?).map fun e => (e.2, 0)) s) : wpAny (model P w) A (setNext S 0 i ep) R E s := by
  unfold setNext setsByText
  refine wpAny_bind (wpAny_setState_of ho hd hf ?_)
  dsimp only
  refine wpAny_bind (wpAny_bind (wpAny_askSetting (wpAny_pure ?_)))
  show wpAny _ _ (if w.params.followText "set-order" = true then _ else _) _ _ s
  rw [hw, if_pos rfl, if_neg (by simp)]
  unfold setWalk setsByText
  refine wpAny_bind (wpAny_bind (wpAny_setState_of ho hd hf ?_))
  dsimp only
  refine wpAny_bind (wpAny_bind (wpAny_askSetting (wpAny_pure ?_)))
  show wpAny _ _ (if w.params.followText "set-order" = true then _ else _) _ _ s
  rw [hw, if_pos rfl]
  refine wpAny_bind (wpAny_askSetting (wpAny_pure (wpAny_pure ?_)))
  exact h
theorem pick_go {α : Type} (next : Nat → Nat) : ∀ (f k : Nat) (left : List α) (out : Array α), left.length = f → (pickOrder.go next f k left out).toList.Perm (out.toList ++ left) := by
  intro f
  induction f with
  | zero =>
    intro k left out hl
    have e : left = [] := List.length_eq_zero_iff.mp hl
    subst e
    unfold pickOrder.go
    rw [List.append_nil]
  | succ f ih =>
    intro k left out hl
    unfold pickOrder.go
    have hlt : next k % left.length < left.length := Nat.mod_lt _ (by omega)
    rw [List.getElem?_eq_getElem hlt]
    dsimp only
    refine (ih _ _ _ (by rw [List.length_eraseIdx_of_lt hlt, hl]; omega)).trans ?_
    rw [Array.toList_push, List.append_assoc]
    exact (perm_erase hlt).append_left _
theorem pick_perm {α : Type} (next : Nat → Nat) (xs : Array α) : (pickOrder next xs).toList.Perm xs.toList := by
  unfold pickOrder
  exact pick_go next _ 0 xs.toList #[] (by rw [Array.length_toList])
end
end Uws

end

section
set_option Elab.async false
set_option linter.all false
set_option maxRecDepth 100000
set_option maxHeartbeats 4000000
namespace Uws
open PySem PyProof.Rows
theorem slot_self : Slot "set_iterator" "__iter__" "set_iterator.__iter__" :=
  Slot.of (owner := "set_iterator") (n := "__iter__") (by rw [typeLookup_type, builtinLookup_eq_fast]; kernel_rfl) (by decide +kernel) (by decide +kernel) (by decide +kernel)
    (by first | exact .inl (by decide +kernel) | exact .inr (by decide +kernel)) (by rw [isSubtype_type]; kernel_rfl)
theorem entry_self : entryFor table "set_iterator.__iter__" = some Builtin.«dict_keyiterator.__iter__» := entryFor_alias (id' := "dict_keyiterator.__iter__") (by kernel_rfl) rfl (by decide +kernel) (by kernel_rfl)
theorem args_self (a : Value) : argsOk "set_iterator.__iter__" ⟨[a], []⟩ := by unfold argsOk; kernel_rfl
section
variable {P : Program} {w : World} {A : Around} {E : Value → Shared → Prop} {s : Shared}
theorem self_iter {I : Addr} {first S : Value} {i n ep : Nat} {Q : Value → Shared → Prop} (hI : s.heap.get? I = some (itObj first i S n ep)) (h : Q (.ref I) s) : wpAny (model P w) A (pyIter (.ref I)) Q E s := by
  have hT : s.TypeIs (.ref I) "set_iterator" := ⟨_, hI, rfl⟩
  refine wpAny_pyIter_slot hT slot_self (wpAny_call_entry slot_self hT entry_self ?_ (args_self _))
  show wpAny _ _ (ret (.ref I)) _ _ s; exact wpAny_pure ⟨_, rfl, "set_iterator", _, hT, slot_next.lookup, h⟩
theorem vals_get {es : Array (Int × Value)} {i : Nat} {e : Int × Value} (h : es[i]? = some e) : (es.toList.map (·.2))[i]? = some e.2 := by
  rw [List.getElem?_map, Array.getElem?_toList, h]; rfl
theorem walk_slots (hh : A.handled = none) {I S : Addr} {o : Obj} {es : Array (Int × Value)} {ep : Nat} {t : SetTable} (ne : S ≠ I) (hd : o.data = .set es ep t) (hf : t.fits es.size = true) (hT : TabOk t true)
    (hw : w.params.followText "set-order" = false) (hp : t.plain = true ∨ es.size ≤ 1) :
    WalksS P w A I [I, S] [I] (fun a b => b = a) es.size (fun i v => (es.toList.map (·.2))[i]? = some v) (fun i s => s.heap.get? I = some (itObj (.int (slotAt t.place i) 0) i (.ref S) es.size ep) ∧ s.heap.get? S = some o) where
  sub := fun b hb => by rw [List.mem_singleton] at hb; rw [hb]; exact List.mem_cons_self
  grefl := fun _ => rfl
  gtrans := fun _ _ _ h1 h2 => h2.trans h1
  frame := fun i s h' tk st _ k => ⟨k I (by simp) _ st.1, k S (by simp) _ st.2⟩
  item := fun i s Q E hi st h => by
    have hx : es[i]? = some es[i] := Array.getElem?_eq_getElem hi
    refine next_slot (nx := slotAt t.place (i + 1)) (x := es[i].2) st.1 st.2 hd hf rfl (fun R E' q => setNext_slots st.2 hd hf hT hw hp (Nat.le_of_lt hi) (by rw [hx]; exact q)) fun h' e1 sb => ?_
    exact h _ _ (vals_get hx) ⟨e1, (sb.2 S ne).trans st.2⟩ ⟨fun b o hb e => (sb.2 b (by simpa using hb)).trans e, rfl, rfl, rfl, Nat.le_refl _⟩
  done := fun s Q E st h => by
    refine next_slot_end hh st.1 st.2 hd hf rfl (fun R E' q => setNext_slots st.2 hd hf hT hw hp (Nat.le_refl _) (by rw [Array.getElem?_eq_none (Nat.le_refl _)]; exact q)) fun h' eb => ?_
    exact h _ ⟨fun b o hb e => eb b o (by simpa using hb) e, rfl, rfl, rfl, Nat.le_refl _⟩
  self := fun i s Q E st h => self_iter st.1 h
theorem walk_text (hh : A.handled = none) {I S : Addr} {o : Obj} {es : Array (Int × Value)} {ep : Nat} {t : SetTable} (ne : S ≠ I) (hd : o.data = .set es ep t) (hf : t.fits es.size = true)
    (hw : w.params.followText "set-order" = true) :
    WalksS P w A I [I, S] [I] (fun a b => b = a) es.size (fun i v => ((pickOrder (w.params.setOrder S ep) es).toList.map (·.2))[i]? = some v) (fun i s => s.heap.get? I = some (itObj (.int ((0 : Nat) : Int) 0) i (.ref S) es.size ep) ∧ s.heap.get? S = some o) where
  sub := fun b hb => by rw [List.mem_singleton] at hb; rw [hb]; exact List.mem_cons_self
  grefl := fun _ => rfl
  gtrans := fun _ _ _ h1 h2 => h2.trans h1
  frame := fun i s h' tk st _ k => ⟨k I (by simp) _ st.1, k S (by simp) _ st.2⟩
  item := fun i s Q E hi st h => by
    have hz := (pick_perm (w.params.setOrder S ep) es).length_eq
    rw [Array.length_toList, Array.length_toList] at hz
    have hx : (pickOrder (w.params.setOrder S ep) es)[i]? = some (pickOrder (w.params.setOrder S ep) es)[i] := Array.getElem?_eq_getElem (by omega)
    refine next_slot (nx := 0) (x := ((pickOrder (w.params.setOrder S ep) es)[i]).2) st.1 st.2 hd hf rfl (fun R E' q => setNext_text st.2 hd hf hw (by rw [hx]; exact q)) fun h' e1 sb => ?_
    exact h _ _ (vals_get hx) ⟨e1, (sb.2 S ne).trans st.2⟩ ⟨fun b o hb e => (sb.2 b (by simpa using hb)).trans e, rfl, rfl, rfl, Nat.le_refl _⟩
  done := fun s Q E st h => by
    have hz := (pick_perm (w.params.setOrder S ep) es).length_eq
    rw [Array.length_toList, Array.length_toList] at hz
    refine next_slot_end hh st.1 st.2 hd hf rfl (fun R E' q => setNext_text st.2 hd hf hw (by rw [Array.getElem?_eq_none (by omega)]; exact q)) fun h' eb => ?_
    exact h _ ⟨fun b o hb e => eb b o (by simpa using hb) e, rfl, rfl, rfl, Nat.le_refl _⟩
  self := fun i s Q E st h => self_iter st.1 h
/-- the values in a drawn order -/
def drawnVals (es : Array (Int × Value)) (ps : List Nat) : List Value := ps.map fun p => (es.toList.map (·.2)).getD p .none
theorem drawn_perm {es : Array (Int × Value)} {ps : List Nat} (h : ps.Perm (List.range es.size)) : (drawnVals es ps).Perm (es.toList.map (·.2)) := by
  unfold drawnVals
  refine (h.map _).trans (.of_eq ?_)
  refine List.ext_getElem (by simp) fun i h1 h2 => ?_
  rw [List.getElem_map, List.getElem_range, List.getD_eq_getElem?_getD, List.getElem?_eq_getElem h2]
  rfl
theorem walk_drawn (hh : A.handled = none) {I S T : Addr} {o : Obj} {es : Array (Int × Value)} {ep : Nat} {t : SetTable} {ps : List Nat} (ne : S ≠ I) (ne2 : T ≠ I) (hd : o.data = .set es ep t) (hf : t.fits es.size = true)
    (hp : ps.Perm (List.range es.size)) :
    WalksS P w A I [I, S, T] [I] (fun a b => b = a) es.size (fun i v => (drawnVals es ps)[i]? = some v) (fun i s => s.heap.get? I = some (itObj (.ref T) i (.ref S) es.size ep) ∧ s.heap.get? S = some o ∧ s.heap.get? T = some (seqObj "tuple" (ps.map fun (i : Nat) => Value.int i 0).toArray 0)) where
  sub := fun b hb => by rw [List.mem_singleton] at hb; rw [hb]; exact List.mem_cons_self
  grefl := fun _ => rfl
  gtrans := fun _ _ _ h1 h2 => h2.trans h1
  frame := fun i s h' tk st _ k => ⟨k I (by simp) _ st.1, k S (by simp) _ st.2.1, k T (by simp) _ st.2.2⟩
  item := fun i s Q E hi st h => by
    have hl : ps.length = es.size := by rw [hp.length_eq, List.length_range]
    have hx : ps[i]? = some ps[i] := List.getElem?_eq_getElem (by omega)
    have hm : ps[i] < es.size := List.mem_range.mp (hp.mem_iff.mp (List.getElem_mem _))
    have he : es[ps[i]]? = some es[ps[i]] := Array.getElem?_eq_getElem hm
    refine next_drawn st.1 st.2.2 st.2.1 hd hf rfl hx he fun h' e1 sb => ?_
    refine h _ _ ?_ ⟨e1, (sb.2 S ne).trans st.2.1, (sb.2 T ne2).trans st.2.2⟩ ⟨fun b o hb e => (sb.2 b (by simpa using hb)).trans e, rfl, rfl, rfl, Nat.le_refl _⟩
    unfold drawnVals
    rw [List.getElem?_map, hx]
    show some ((es.toList.map (·.2)).getD ps[i] .none) = _
    rw [List.getD_eq_getElem?_getD, vals_get he]
    rfl
  done := fun s Q E st h => by
    have hl : ps.length = es.size := by rw [hp.length_eq, List.length_range]
    refine next_drawn_end hh st.1 st.2.2 st.2.1 hd hf rfl (List.getElem?_eq_none (by omega)) fun h' eb => ?_
    exact h _ ⟨fun b o hb e => eb b o (by simpa using hb) e, rfl, rfl, rfl, Nat.le_refl _⟩
  self := fun i s Q E st h => self_iter st.1 h
end
end Uws

end

section
set_option Elab.async false
set_option linter.all false
set_option maxRecDepth 100000
set_option maxHeartbeats 4000000
namespace Uws
open PySem PyProof.Rows
section
variable {P : Program} {w : World} {A : Around} {E : Value → Shared → Prop} {s : Shared}
theorem hint_set {S : Addr} {o : Obj} {Q : Bool → Shared → Prop} (hS : s.heap.get? S = some o) (ex : o.ExactSet) (h : Q false s) : wpAny (model P w) A (Builtin.List.listLengthHint (.ref S)) Q E s := by
  have hT : s.TypeIs (.ref S) "set" := ⟨o, hS, ex.1⟩
  unfold Builtin.List.listLengthHint
  refine wpAny_bind (wpAny_specialOf hT look_len ?_)
  dsimp only
  rw [show splitId "set.__len__" = some ("set", "__len__") from by decide +kernel]
  dsimp only
  refine wpAny_bind (wpAny_isInstance (b := true) hT sub_set_self ?_)
  rw [if_neg (by decide)]
  rw [if_pos (by decide +kernel)]
  exact wpAny_bind (wpAny_typeOf hT (wpAny_pure h))
theorem ext_tail {N I : Addr} {fp : List Addr} {n : Nat} {Pv : Nat → Value → Prop} {St : Nat → Shared → Prop} (W : WalksS P w A.in1 I fp [I] (fun a b => b = a) n Pv St) (hn : n ≤ sizeLine) (hN : N ∉ fp)
    (hL : s.heap.get? N = some (seqObj "list" ([] : List Value).toArray 0)) (st : St 0 s) {R : Result → Shared → Prop}
    (h : ∀ s' acc c, Moved [N, I] (fun a b => b = a) s s' → s'.heap.get? N = some (seqObj "list" acc c) → ItemsOf Pv acc n → R (.ok (.ret (.ref N))) s') :
    wpAny (model P w) A.in1 (Builtin.List.listTouch (.ref N)) (fun _ s' => codeAny (model P w) A (.builtin "list.extend.loop" ⟨[.ref N, .ref I, .ref N], []⟩) R s') E s := by
  show wpAny _ A.in1 (updateSeq N (·.push .none) >>= fun _ => updateSeq N (·.pop)) _ _ _
  refine wpAny_bind (wpAny_updateSeq hL rfl ?_)
  have h2 := Heap.get?_update_self (Obj.mapSeq (·.push Value.none)) hL rfl
  refine wpAny_updateSeq h2 rfl ?_
  have h3 := Heap.get?_update_self (Obj.mapSeq (·.pop)) h2 rfl
  have oth : ∀ b o, b ≠ N → s.heap.get? b = some o → ((s.heap.update N (Obj.mapSeq (·.push Value.none))).update N (Obj.mapSeq (·.pop))).get? b = some o :=
    fun b o hb e => (Heap.get?_update_other _ _ (Ne.symm hb)).trans ((Heap.get?_update_other _ _ (Ne.symm hb)).trans e)
  refine codeAny_extend_loopS W hn N hN _ n 0 _ _ _ rfl (Nat.zero_le _) (W.frame 0 s _ s.toks st (Nat.le_refl _) fun b hb o e => oth b o (fun z => hN (z ▸ hb)) e) h3 (ItemsOf.nil Pv) fun s' acc c m e ia => ?_
  have m0 : Moved [N, I] (fun a b => b = a) s { s with heap := (s.heap.update N (Obj.mapSeq (·.push Value.none))).update N (Obj.mapSeq (·.pop)) } := ⟨fun b o hb e => oth b o (fun z => hb (by rw [z]; exact List.mem_cons_self)) e, rfl, rfl, rfl, Nat.le_refl _⟩
  exact h s' acc c (Moved.trans W.gtrans m0 m) e ia
theorem ints_all : ∀ (vs : List Value), (∀ v ∈ vs, ∃ k t, v = Value.int k t) → IntsAre vs (vs.map iv)
  | [], _ => .nil
  | v :: r, h => by
    obtain ⟨k, t, e⟩ := h v List.mem_cons_self
    subst e
    exact .cons k t (ints_all r fun x hx => h x (List.mem_cons_of_mem _ hx))
theorem items_eq {vs : List Value} {acc : Array Value} {n : Nat} (h : ItemsOf (fun i v => vs[i]? = some v) acc n) (hl : vs.length = n) : acc.toList = vs := by
  refine List.ext_getElem? fun i => ?_
  rw [Array.getElem?_toList]
  by_cases hi : i < acc.size
  · have q := h.2 i acc[i] (Array.getElem?_eq_getElem hi)
    rw [Array.getElem?_eq_getElem hi, q]
  · rw [Array.getElem?_eq_none (by omega), List.getElem?_eq_none (by rw [hl, ← h.1]; omega)]
/-- list(a set): its members, in some order -/
theorem collect_set {S : Addr} {o : Obj} {ns : List Int} {Q : List Value → Shared → Prop} (hh : A.handled = none) (ho : s.heap.get? S = some o) (D : SetD P w o (ledOf w) ns) (hb : ns.length < scanBound)
    (h : ∀ (vs : List Value) (h' : Heap) (tk : Nat) (d : Drawn), (∀ b o, s.heap.get? b = some o → h'.get? b = some o) → s.heap.objs.size ≤ h'.objs.size → IntsAre vs (vs.map iv) → (vs.map iv).Nodup → (∀ x, x ∈ vs.map iv ↔ x ∈ ns) → vs.length ≤ ns.length →
      Q vs { s with heap := h', toks := tk, drawn := d }) : wpAny (model P w) A (collect (.ref S)) Q E s := by
  obtain ⟨ex, es, ep, t, hd, B⟩ := id D
  have hSlt : S < s.heap.objs.size := Heap.lt_size ho
  have hz : es.size ≤ sizeLine := fits_of_scanBound (Nat.lt_of_le_of_lt B.sz hb)
  unfold collect
  refine wpAny_bind (wpAny_runValue (codeAny_builtin PySem.F.entry_proto_collect ?_)); rw [Around.under_plainId PySem.F.plain_proto_collect _]
  show wpAny _ A.in1 (newList [] >>= fun l => again (.builtin "list.__iadd__" ⟨[l, .ref S], []⟩)) _ _ s; refine wpAny_bind (wpAny_newObj_type ?_)
  refine wpAny_pure ⟨plainId_quiet PySem.F.plain_list_iadd _, codeAny_builtin PySem.F.entry_list_iadd ?_⟩; rw [Around.under_plainId PySem.F.plain_list_iadd _]
  have ho1 : (s.heap.push (seqObj "list" ([] : List Value).toArray 0)).get? S = some o := Heap.get?_push_of_some _ ho
  have sz1 : (s.heap.push (seqObj "list" ([] : List Value).toArray 0)).objs.size = s.heap.objs.size + 1 := size_push' _ _
  show wpAny _ A.in1 (Builtin.List.listExtendWith (.ref s.heap.objs.size) (.ref S) (.ref s.heap.objs.size)) _ _ { s with heap := s.heap.push (seqObj "list" ([] : List Value).toArray 0) }
  unfold Builtin.List.listExtendWith
  refine wpAny_bind (wpAny_typeOf (T := "set") ⟨o, ho1, ex.1⟩ ?_)
  have n1 : Builtin.List.listSameRef (.ref s.heap.objs.size) (.ref S) = false := by
    show (s.heap.objs.size == S) = false
    exact beq_eq_false_iff_ne.mpr (Nat.ne_of_gt hSlt)
  rw [if_neg (by rw [n1]; decide)]
  have alls : ∀ vs : List Value, vs.Perm (es.toList.map (·.2)) → IntsAre vs (vs.map iv) ∧ (vs.map iv).Nodup ∧ (∀ x, x ∈ vs.map iv ↔ x ∈ ns) ∧ vs.length = es.size := fun vs p => by
    have q : (vs.map iv).Perm (keysOf es.toList) := by
      refine (p.map iv).trans (.of_eq ?_)
      unfold keysOf
      rw [List.map_map]
      rfl
    refine ⟨ints_all vs fun v hv => ?_, q.nodup_iff.mpr B.nd, fun x => q.mem_iff.trans (B.me x), ?_⟩
    · obtain ⟨e, he, rfl⟩ := List.mem_map.mp (p.mem_iff.mp hv)
      obtain ⟨⟨k, hk, _⟩, _⟩ := B.el e he
      obtain ⟨t, e2⟩ := is_int hk
      exact ⟨k, t, e2⟩
    · rw [p.length_eq, List.length_map, Array.length_toList]
  have hL1 : (s.heap.push (seqObj "list" ([] : List Value).toArray 0)).get? s.heap.objs.size = some (seqObj "list" ([] : List Value).toArray 0) := Heap.get?_push_size _ rfl
  -- what stands behind the loop
  have fin : ∀ (s2 s' : Shared) (I : Addr) (vs : List Value) (acc : Array Value) (c : Nat), Moved [s.heap.objs.size, I] (fun a b => b = a) s2 s' → s'.heap.get? s.heap.objs.size = some (seqObj "list" acc c) → ItemsOf (fun i v => vs[i]? = some v) acc es.size → s.heap.objs.size < I →
      (∀ b o, (s.heap.push (seqObj "list" ([] : List Value).toArray 0)).get? b = some o → s2.heap.get? b = some o) → s2.gens = s.gens → s2.os = s.os → vs.Perm (es.toList.map (·.2)) → Q acc.toList s' := by
    intro s2 s' I vs acc c m e ia hI k2 g2 o2 p
    obtain ⟨a1, a2, a3, a4⟩ := alls vs p
    rw [items_eq ia a4]
    obtain ⟨h', g', d', tk', os'⟩ := s'
    have eg : g' = s.gens := m.gens.trans g2
    have eo : os' = s.os := m.os.trans o2
    subst eg; subst eo
    refine h vs h' tk' d' (fun b o eb => ?_) (Nat.le_of_lt (Heap.lt_size e)) a1 a2 a3 (by rw [a4]; exact B.sz)
    have lb := Heap.lt_size eb
    refine m.heap b o (fun hb => ?_) (k2 b o (Heap.get?_push_of_some _ eb))
    rcases List.mem_cons.mp hb with z | z
    · exact Nat.lt_irrefl _ (z ▸ lb)
    · rw [List.mem_singleton] at z
      rw [z] at lb
      exact Nat.lt_irrefl _ (Nat.lt_trans hI lb)
  have hh1 : A.in1.handled = none := hh
  refine wpAny_bind (iter_set ho1 ex hd B.fi (fun hm => ?_) (fun ps d hw hp => ?_) hz)
  · refine wpAny_bind (wpAny_holding (hint_set (Heap.get?_push_of_some _ ho1) ex ?_))
    dsimp only
    rw [if_pos (by decide +kernel)]
    refine wpAny_bind (wpAny_rule ?_)
    rw [sz1]
    have hIg : ((s.heap.push (seqObj "list" ([] : List Value).toArray 0)).push (itObj (.int 0 0) 0 (.ref S) es.size ep)).get? (s.heap.objs.size + 1) = some (itObj (.int 0 0) 0 (.ref S) es.size ep) := by
      rw [← sz1]; exact Heap.get?_push_size _ rfl
    have neS : S ≠ s.heap.objs.size + 1 := fun z => Nat.lt_irrefl _ (Nat.lt_succ_of_lt (z ▸ hSlt : s.heap.objs.size + 1 < s.heap.objs.size))
    have nN : s.heap.objs.size ∉ [s.heap.objs.size + 1, S] := by
      intro z
      rcases List.mem_cons.mp z with z | z
      · exact Nat.succ_ne_self _ z.symm
      · rw [List.mem_singleton] at z
        exact Nat.lt_irrefl _ (z ▸ hSlt)
    cases hw : w.params.followText "set-order" with
    | true =>
      refine wpAny_bind (wpAny_mono (ext_tail (walk_text hh1 neS hd B.fi hw) hz nN (Heap.get?_push_of_some _ hL1) ⟨hIg, Heap.get?_push_of_some _ ho1⟩ fun s' acc c m e ia => ?_) (fun _ s' q => wpAny_pure ⟨plainId_quiet PySem.F.plain_extend_loop _, q⟩) fun _ _ e => e)
      refine wpAny_bind (wpAny_load e (wpAny_pure ?_))
      exact fin _ s' _ _ acc c m e ia (Nat.lt_succ_self _) (fun b o e => Heap.get?_push_of_some _ e) rfl rfl ((pick_perm _ es).map _)
    | false =>
      have hT : TabOk t true := by
        have q := B.ta
        unfold ledOf at q
        rw [hw] at q
        exact q
      have hm' : t.plain = true ∨ es.size ≤ 1 := by
        rcases hm with z | z
        · rw [hw] at z; cases z
        · exact z
      refine wpAny_bind (wpAny_mono (ext_tail (walk_slots hh1 neS hd B.fi hT hw hm') hz nN (Heap.get?_push_of_some _ hL1) ⟨hIg, Heap.get?_push_of_some _ ho1⟩ fun s' acc c m e ia => ?_) (fun _ s' q => wpAny_pure ⟨plainId_quiet PySem.F.plain_extend_loop _, q⟩) fun _ _ e => e)
      refine wpAny_bind (wpAny_load e (wpAny_pure ?_))
      exact fin _ s' _ _ acc c m e ia (Nat.lt_succ_self _) (fun b o e => Heap.get?_push_of_some _ e) rfl rfl (.refl _)
  · refine wpAny_bind (wpAny_holding (hint_set (Heap.get?_push_of_some _ (Heap.get?_push_of_some _ ho1)) ex ?_))
    dsimp only
    rw [if_pos (by decide +kernel)]
    refine wpAny_bind (wpAny_rule ?_)
    rw [sz1]
    have sz2 : ((s.heap.push (seqObj "list" ([] : List Value).toArray 0)).push (seqObj "tuple" (ps.map fun (i : Nat) => Value.int i 0).toArray 0)).objs.size = s.heap.objs.size + 1 + 1 := by rw [size_push', sz1]
    have hIg : (((s.heap.push (seqObj "list" ([] : List Value).toArray 0)).push (seqObj "tuple" (ps.map fun (i : Nat) => Value.int i 0).toArray 0)).push (itObj (.ref (s.heap.objs.size + 1)) 0 (.ref S) es.size ep)).get? (s.heap.objs.size + 1 + 1) = some (itObj (.ref (s.heap.objs.size + 1)) 0 (.ref S) es.size ep) := by
      rw [← sz2]; exact Heap.get?_push_size _ rfl
    have hTg : ((s.heap.push (seqObj "list" ([] : List Value).toArray 0)).push (seqObj "tuple" (ps.map fun (i : Nat) => Value.int i 0).toArray 0)).get? (s.heap.objs.size + 1) = some (seqObj "tuple" (ps.map fun (i : Nat) => Value.int i 0).toArray 0) := by
      rw [← sz1]; exact Heap.get?_push_size _ rfl
    have neS : S ≠ s.heap.objs.size + 1 + 1 := fun z => Nat.lt_irrefl _ (Nat.lt_trans (Nat.lt_trans (Nat.lt_succ_self _) (Nat.lt_succ_self _)) (z ▸ hSlt : s.heap.objs.size + 1 + 1 < s.heap.objs.size))
    have neT : s.heap.objs.size + 1 ≠ s.heap.objs.size + 1 + 1 := fun z => Nat.succ_ne_self _ z.symm
    have nN : s.heap.objs.size ∉ [s.heap.objs.size + 1 + 1, S, s.heap.objs.size + 1] := by
      intro z
      rcases List.mem_cons.mp z with z | z
      · exact Nat.lt_irrefl _ (Nat.lt_of_lt_of_le (Nat.lt_trans (Nat.lt_succ_self _) (Nat.lt_succ_self _)) (Nat.le_of_eq z.symm))
      · rcases List.mem_cons.mp z with z | z
        · exact Nat.lt_irrefl _ (z ▸ hSlt)
        · rw [List.mem_singleton] at z
          exact Nat.succ_ne_self _ z.symm
    refine wpAny_bind (wpAny_mono (ext_tail (walk_drawn hh1 neS neT hd B.fi hp) hz nN (Heap.get?_push_of_some _ (Heap.get?_push_of_some _ hL1)) ⟨hIg, Heap.get?_push_of_some _ (Heap.get?_push_of_some _ ho1), Heap.get?_push_of_some _ hTg⟩ fun s' acc c m e ia => ?_) (fun _ s' q => wpAny_pure ⟨plainId_quiet PySem.F.plain_extend_loop _, q⟩) fun _ _ e => e)
    refine wpAny_bind (wpAny_load e (wpAny_pure ?_))
    exact fin _ s' _ _ acc c m e ia (Nat.lt_trans (Nat.lt_succ_self _) (Nat.lt_succ_self _)) (fun b o e => Heap.get?_push_of_some _ (Heap.get?_push_of_some _ e)) rfl rfl (drawn_perm hp)
/-- sorted(a set) -/
theorem sorted_set {S : Addr} {o : Obj} {ns : List Int} {Q : Value → Shared → Prop} (hh : A.handled = none) (ho : s.heap.get? S = some o) (D : SetD P w o (ledOf w) ns) (hb : ns.length < 64)
    (h : ∀ (out : Array Value) (ks : List Int) (p : Addr) (h' : Heap) (tk c : Nat) (d : Drawn), s.heap.objs.size ≤ p → h'.get? p = some (seqObj "list" out c) → (∀ b o, s.heap.get? b = some o → h'.get? b = some o) → IntsAre out.toList ks → ks.Nodup → (∀ x, x ∈ ks ↔ x ∈ ns) → ks.Pairwise (· ≤ ·) → ks.length ≤ ns.length →
      Q (.ref p) { s with heap := h', toks := tk, drawn := d }) : wpAny (model P w) A (call (.builtin "sorted") [.ref S]) Q E s := by
  have hb' : ns.length < scanBound := Nat.lt_trans hb (by decide)
  refine Calls.call_function_entry PyProof.Rows.kind_sorted PyProof.Rows.plain_sorted PyProof.Rows.entry_sorted (PyProof.Rows.args_sorted1 _) ?_
  unfold Builtin.«sorted»
  refine wpAny_bind (m := checkCount "sorted" 1 1 [Value.ref S].length) (wpAny_pure ?_)
  have hh1 : A.in1.handled = none := hh
  refine wpAny_bind (collect_set hh1 ho D hb' fun vs h1 tk d k1 z1 i1 n1 m1 l1 => ?_)
  refine wpAny_bind (wpAny_newList ?_ (Nat.le_trans l1 (fits_of_scanBound hb')))
  have hoL : (h1.push (seqObj "list" vs.toArray 0)).get? h1.objs.size = some (seqObj "list" vs.toArray 0) := Heap.get?_push_size _ rfl
  refine wpAny_bind (wpAny_holding (wpAny_call_entry PyProof.Rows.slot_list_sort ⟨_, hoL, rfl⟩ PyProof.Rows.entry_list_sort (PyProof.Rows.list_sort_tree hoL i1 (Nat.lt_of_le_of_lt l1 hb) fun out ks a1 a2 a3 => ⟨_, rfl, ?_⟩) (PyProof.Rows.args_list_sort _)))
  obtain ⟨c, he⟩ := PyProof.Rows.sortedHeap_at (vs := vs) (out := out) hoL
  refine wpAny_pure ⟨_, rfl, h out ks h1.objs.size _ tk c d z1 he (fun b o e => ?_) a1 (a2.nodup_iff.mpr n1) (fun x => a2.mem_iff.trans (m1 x)) a3 (by rw [a2.length_eq, List.length_map]; exact l1)⟩
  have e1 := k1 b o e
  have e2 : (h1.push (seqObj "list" vs.toArray 0)).get? b = some o := Heap.get?_push_of_some _ e1
  rw [PyProof.Rows.sortedHeap_old (fun z : b = h1.objs.size => Nat.lt_irrefl _ (z ▸ Heap.lt_size e1)) (Heap.lt_size e2)]
  exact e2
end
end Uws

end

section
set_option Elab.async false
set_option linter.all false
set_option maxRecDepth 100000
set_option maxHeartbeats 4000000
namespace Uws
open PySem PySem.Spec PyProof.Rows L2
/-- a set of ints stands at p -/
def SetO (P : Program) (w : World) (p : Addr) (ns : List Int) : HO := .ext fun h => ∃ o, h.get? p = some o ∧ SetD P w o (ledOf w) ns
theorem range_get (ns : List Int) : (List.range ns.length).map (fun i => ns.getD i 0) = ns := by
  refine List.ext_getElem (by simp) fun i h1 h2 => ?_
  rw [List.getElem_map, List.getElem_range, List.getD_eq_getElem?_getD, List.getElem?_eq_getElem h2]
  rfl
theorem _root_.L2.Inv.drew {X : Cx} {pins : List (Addr × Obj)} {σ : List (Option V)} {H : Hp} {s : Shared} (I : Inv X pins σ H s) (d : Drawn) : Inv X pins σ H { s with drawn := d } :=
  ⟨I.ok, I.os, I.bare, I.base, I.loc, I.cell, I.free, I.freeC, I.pin, I.hok, I.len⟩
section
variable {X : Cx}
def rSet (P : Program) (w : World) (K : PySem.W.Frag) : List V → Hp → VK → Prop := fun vs H Q => ∃ (a : Addr) (ns : List Int), vs = [V.ref a] ∧ SqL K H a (ns.map V.int) ∧ ns.length < 1000 ∧ ∀ p : Addr, H p = none → Q (.ref p) (upd H p (SetO P w p ns))
theorem cr_set (hc : X.calm = true) : CallR X (.type "set") (rSet X.prog X.w X.K) := by
  intro pins s σ H vs us Q I r h
  obtain ⟨a, ns, rfl, hs, hlen, q⟩ := h
  obtain ⟨its, rv, hl, _⟩ := I.list hs
  rw [Vals.ref1 r]
  have hi : IntsAre its.toArray.toList ns := by
    rw [List.toList_toArray]
    exact rv.ints
  have hz : its.toArray.size = ns.length := by
    rw [List.size_toArray]
    exact rv.ints.length
  refine call_set (I.ok.hd hc) hl.isList hi (by rw [hz]; show ns.length + 1 < 4096; omega) fun h' tk hD k => ?_
  rw [hz, range_get] at hD
  obtain ⟨o, ho, D⟩ := hD
  refine ⟨.ref _, upd H s.heap.objs.size (SetO X.prog X.w s.heap.objs.size ns), I.laid (t' := tk) (fun b o e => k b o (Heap.lt_size e) e) (Nat.le_refl _) ⟨⟨o, ho, D⟩, ⟨o, ho⟩, ?_⟩, rfl, q _ (I.hok.fresh (Nat.le_refl _))⟩
  rintro h1 h2 ⟨o, e, D⟩ kk
  exact ⟨o, kk o e, D⟩
def rSortedSet (P : Program) (w : World) : List V → Hp → VK → Prop := fun vs H Q => ∃ (p : Addr) (ns : List Int), vs = [V.ref p] ∧ H p = some (SetO P w p ns) ∧ ns.length < 64 ∧
  ∀ (ks : List Int) (q : Addr), ks.Nodup → (∀ x, x ∈ ks ↔ x ∈ ns) → ks.Pairwise (· ≤ ·) → ks.length ≤ ns.length → H q = none → Q (.ref q) (upd H q (.lst (ks.map V.int)))
theorem cr_sortedSet (hc : X.calm = true) : CallR X (.builtin "sorted") (rSortedSet X.prog X.w) := by
  intro pins s σ H vs us Q I r h
  obtain ⟨p, ns, rfl, hp, hlen, q⟩ := h
  obtain ⟨⟨o, ho, D⟩, _, _⟩ := I.hok p _ hp
  rw [Vals.ref1 r]
  refine sorted_set (I.ok.hd hc) ho D hlen fun out ks p h' tk c d z e k i n m so hll => ?_
  refine ⟨.ref _, upd H p (.lst (ks.map V.int)), (I.drew d).laid (t' := tk) k z ⟨?_, out.toList, c, vals_of_ints i, ?_⟩, rfl, q ks p n m so hll (I.hok.fresh z)⟩
  · rw [List.length_map]
    exact small64 (Nat.lt_of_le_of_lt hll hlen)
  · rw [Array.toArray_toList]
    exact e
end
theorem boot_set : bootBuiltins "set" = some (.type "set") := by decide +kernel
theorem boot_sorted : bootBuiltins "sorted" = some (.builtin "sorted") := by decide +kernel
end Uws

end

section
set_option Elab.async false
set_option linter.all false
set_option maxRecDepth 100000
set_option maxHeartbeats 4000000
namespace Uwp
open PySem PySem.Spec PyProof.Rows L2
open PySem.W (Codec)
/-! ### the text by places -/
def top (i : Nat) : Stmt := PySem.Challenge.pw_coconutheaps_s01_answers.main.body.getD i (.Pass ⟨0, 0, 0, 0⟩)
abbrev sShInit : Stmt := inClass (top 25) 0
abbrev sGoesWith : Stmt := inClass (top 25) 1
abbrev sPartSize : Stmt := inClass (top 25) 2
abbrev sHeapBehind : Stmt := inClass (top 25) 3
abbrev sNInit : Stmt := inClass (top 27) 0
abbrev sBegin : Stmt := inClass (top 27) 1
abbrev sAddShare : Stmt := inClass (top 27) 2
abbrev sUndo : Stmt := inClass (top 27) 3
abbrev sSetSailors : Stmt := inClass (top 27) 4
abbrev sPartSizes : Stmt := inClass (top 27) 5
abbrev sGoes : Stmt := inClass (top 27) 6
abbrev sGets : Stmt := inClass (top 27) 7
abbrev sTakesAll : Stmt := inClass (top 25) 4
abbrev sHeapAhead : Stmt := inClass (top 25) 5
abbrev sRowInit : Stmt := inClass (top 26) 0
abbrev sNumber : Stmt := inClass (top 26) 1
abbrev sPlaceFrom : Stmt := inClass (top 26) 2
abbrev sCountTo : Stmt := inClass (top 26) 3
abbrev sLeaves : Stmt := inClass (top 26) 4
abbrev sPlaceGoes : Stmt := inClass (top 26) 5
abbrev sPlacesBetween : Stmt := inClass (top 26) 6
abbrev sThinned : Stmt := inClass (top 26) 7
abbrev sRestsBehind : Stmt := inClass (top 26) 8
abbrev sMonkeyGets : Stmt := inClass (top 27) 8
abbrev sTakenOf : Stmt := inClass (top 27) 9
abbrev sLeftOf : Stmt := inClass (top 27) 10
abbrev sGoingHeaps : Stmt := inClass (top 27) 11
abbrev sLeast : Stmt := inClass (top 27) 12
abbrev sEvery : Stmt := inClass (top 27) 13
abbrev sCountGoing : Stmt := inClass (top 27) 14
abbrev sRichest : Stmt := inClass (top 27) 15
abbrev sBack : Stmt := inClass (top 27) 16
abbrev sLast : Stmt := inClass (top 27) 17
abbrev sRoundedUp : Stmt := top 30
abbrev sRowThrough : Stmt := top 31
abbrev sIsParts : Stmt := top 28
abbrev sIsShare : Stmt := top 29
abbrev sAnswerCall : Stmt := top 32
abbrev sAnswers : Stmt := top 33
/-! ### the data -/
theorem putF_len (f : Str) (v : V) : ∀ fs : List (Str × V), (putF f v fs).length ≤ fs.length + 1
  | [] => Nat.le_refl _
  | (g, x) :: r => by
    show (if g = f then (g, v) :: r else (g, x) :: putF f v r).length ≤ _
    split
    · simp only [List.length_cons]; omega
    · have := putF_len f v r
      simp only [List.length_cons]; omega
theorem few1 (f : Str) (v : V) : (putF f v []).length < 1000 := Nat.lt_of_le_of_lt (putF_len f v []) (by show 1 < 1000; decide)
theorem few2 (f g : Str) (v u : V) : (putF f v (putF g u [])).length < 1000 := by
  have h1 := putF_len g u []
  have h2 := putF_len f v (putF g u [])
  have h3 : ([] : List (Str × V)).length = 0 := rfl
  omega
def shf (s : Uw79.Share) : List (Str × V) := putF "taken" (.int (s.t : Int)) (putF "over" (.int (s.r : Int)) (putF "parts" (.int (s.p : Int)) []))
theorem shf_taken (s : Uw79.Share) : (shf s).lookup ("taken" : Str) = some (.int (s.t : Int)) := by
  unfold shf
  rw [lookup_putF, if_pos rfl]
theorem shf_over (s : Uw79.Share) : (shf s).lookup ("over" : Str) = some (.int (s.r : Int)) := by
  unfold shf
  rw [lookup_putF, if_neg (by decide +kernel), lookup_putF, if_pos rfl]
theorem shf_parts (s : Uw79.Share) : (shf s).lookup ("parts" : Str) = some (.int (s.p : Int)) := by
  unfold shf
  rw [lookup_putF, if_neg (by decide +kernel), lookup_putF, if_neg (by decide +kernel), lookup_putF, if_pos rfl]
theorem shf_no (s : Uw79.Share) {m : Str} (h1 : ¬ m = "taken") (h2 : ¬ m = "over") (h3 : ¬ m = "parts") : (shf s).lookup m = none := by
  unfold shf
  rw [lookup_putF, if_neg h1, lookup_putF, if_neg h2, lookup_putF, if_neg h3]
  all_goals rfl
def nf (la : Addr) : List (Str × V) := putF "shares" (.ref la) []
theorem nf_shares (la : Addr) : (nf la).lookup ("shares" : Str) = some (.ref la) := by
  unfold nf
  rw [lookup_putF, if_pos rfl]
theorem nf_no (la : Addr) {m : Str} (h : ¬ m = "shares") : (nf la).lookup m = none := by
  unfold nf
  rw [lookup_putF, if_neg h]
  all_goals rfl
theorem nf_put (la lb : Addr) : putF "shares" (.ref lb) (nf la) = nf lb := by
  show (if ("shares" : Str) = "shares" then [(("shares" : Str), V.ref lb)] else _) = ([("shares", V.ref lb)] : List (Str × V))
  rw [if_pos rfl]
/-- a Share stands at a -/
def ShAt (C : Addr) (H : Hp) (a : Addr) (s : Uw79.Share) : Prop := ∃ dx, H a = some (.ins C dx (shf s))
/-- the list at la holds the shares l -/
structure SharesAt (C : Addr) (H : Hp) (la : Addr) (as : List Addr) (l : Uw79.Night) : Prop where
  lst : H la = some (.lst (as.map V.ref))
  len : as.length = l.length
  at_ : ∀ (j : Nat) (a : Addr) (s : Uw79.Share), as[j]? = some a → l[j]? = some s → ShAt C H a s
/-- a Night stands at n: its list at la -/
structure NightAt (C D : Addr) (H : Hp) (n la : Addr) (l : Uw79.Night) : Prop where
  ob : ∃ dx, H n = some (.ins D dx (nf la))
  sh : ∃ as, SharesAt C H la as l
theorem ShAt.keep {C : Addr} {H H' : Hp} {a : Addr} {s : Uw79.Share} (h : ShAt C H a s) (k : ∀ o, H a = some o → H' a = some o) : ShAt C H' a s := by
  obtain ⟨dx, e⟩ := h
  exact ⟨dx, k _ e⟩
theorem SharesAt.same {C : Addr} {H H' : Hp} {la : Addr} {as : List Addr} {l : Uw79.Night} (h : SharesAt C H la as l) (k : Same H H') : SharesAt C H' la as l :=
  ⟨k _ _ h.lst, h.len, fun j a s h1 h2 => (h.at_ j a s h1 h2).keep fun o e => k _ _ e⟩
theorem NightAt.same {C D : Addr} {H H' : Hp} {n la : Addr} {l : Uw79.Night} (h : NightAt C D H n la l) (k : Same H H') : NightAt C D H' n la l := by
  obtain ⟨⟨dx, e⟩, as, q⟩ := h
  exact ⟨⟨dx, k _ _ e⟩, as, q.same k⟩
theorem SharesAt.get {C : Addr} {H : Hp} {la : Addr} {as : List Addr} {l : Uw79.Night} (h : SharesAt C H la as l) {i : Nat} {y : V} (hi : (as.map V.ref)[i]? = some y) :
    ∃ a s, as[i]? = some a ∧ l[i]? = some s ∧ y = V.ref a ∧ ShAt C H a s := by
  rw [List.getElem?_map] at hi
  cases e : as[i]? with
  | none =>
    rw [e] at hi
    cases hi
  | some a =>
    rw [e] at hi
    have hl : i < l.length := by
      rw [← h.len]
      exact (List.getElem?_eq_some_iff.mp e).1
    exact ⟨a, l[i], rfl, List.getElem?_eq_getElem hl, (Option.some.inj hi).symm, h.at_ i a _ e (List.getElem?_eq_getElem hl)⟩
theorem same_upd {H : Hp} {p : Addr} {o : HO} (h : H p = none) : Same H (upd H p o) := fun b u e => by
  rw [upd_ne (ne_of_none e h)]
  exact e
/-! ### promises -/
def Keep (H H' : Hp) (n la : Addr) : Prop := ∀ b o, H b = some o → b ≠ n → b ≠ la → H' b = some o
/-- what a call leaves: the night behind it, and its answer in a new list -/
def Res (C D : Addr) (H : Hp) (n la : Addr) (r : Uw79.Night × List Int) (Q : VK) : Prop :=
  ∀ (la' : Addr) (H' : Hp) (p : Addr), NightAt C D H' n la' r.1 → (la' = la ∨ H la' = none) → Keep H H' n la → H' p = some (.lst (r.2.map V.int)) → H p = none → Q (.ref p) H'
def spN0 (C D : Addr) (c : Uw79.Call) : Sp := fun vs H Q _ => ∃ (n la : Addr) (l : Uw79.Night), vs = [.ref n] ∧ NightAt C D H n la l ∧ Uwm.Ok l ∧ Res C D H n la (Uw79.step l c) Q
def spN1 (C D : Addr) (c : Nat → Uw79.Call) : Sp := fun vs H Q _ => ∃ (n la : Addr) (l : Uw79.Night) (x : Nat), vs = [.ref n, .int (x : Int)] ∧ x < 2 ^ 32 ∧ NightAt C D H n la l ∧ Uwm.Ok l ∧ Res C D H n la (Uw79.step l (c x)) Q
def spN3 (C D : Addr) (c : Nat → Nat → Nat → Uw79.Call) : Sp := fun vs H Q _ => ∃ (n la : Addr) (l : Uw79.Night) (x y z : Nat), vs = [.ref n, .int (x : Int), .int (y : Int), .int (z : Int)] ∧ NightAt C D H n la l ∧ Uwm.Ok l ∧ Res C D H n la (Uw79.step l (c x y z)) Q
/-- a call that only asks -/
def spAsk1 (C D : Addr) (g : Uw79.Night → Nat → List Int) : Sp := fun vs H Q _ => ∃ (n la : Addr) (l : Uw79.Night) (x : Nat), vs = [.ref n, .int (x : Int)] ∧ x < 2 ^ 32 ∧ NightAt C D H n la l ∧ Uwm.Ok l ∧
  ∀ (H' : Hp) (p : Addr), Same H H' → H p = none → H' p = some (.lst ((g l x).map V.int)) → Q (.ref p) H'
theorem Res.ask {C D : Addr} {H : Hp} {n la : Addr} {l : Uw79.Night} {r : List Int} {Q : VK} (N : NightAt C D H n la l) (h : Res C D H n la (l, r) Q) :
    ∀ (H' : Hp) (p : Addr), Same H H' → H p = none → H' p = some (.lst (r.map V.int)) → Q (.ref p) H' :=
  fun H' p s e q => h la H' p (N.same s) (.inl rfl) (fun b o eb _ _ => s b o eb) q e
def spShInit (C : Addr) : Sp := fun vs H Q _ => ∃ (a dx : Addr) (s : Uw79.Share), vs = [.ref a, .int (s.p : Int), .int (s.r : Int), .int (s.t : Int)] ∧ H a = some (.ins C dx []) ∧ ∀ H' : Hp, ShAt C H' a s → (∀ b o, H b = some o → b ≠ a → H' b = some o) → Q .non H'
def spGoesWith (C : Addr) : Sp := fun vs H Q _ => ∃ (a : Addr) (s : Uw79.Share) (x : Nat), vs = [.ref a, .int (x : Int)] ∧ ShAt C H a s ∧ Uwm.GoodS s ∧ Q (.bl (decide (x % s.p = s.r))) H
def spPartSize (C : Addr) : Sp := fun vs H Q _ => ∃ (a : Addr) (s : Uw79.Share) (x : Nat), vs = [.ref a, .int (x : Int)] ∧ ShAt C H a s ∧ Uwm.GoodS s ∧ s.r ≤ x ∧ Q (.int (((x - s.r) / s.p : Nat) : Int)) H
def spHeapBehind (C : Addr) : Sp := fun vs H Q _ => ∃ (a : Addr) (s : Uw79.Share) (q : Nat), vs = [.ref a, .int (q : Int)] ∧ ShAt C H a s ∧ Uwm.GoodS s ∧ Q (.int (((s.p - s.t) * q : Nat) : Int)) H
def spIsParts : Sp := fun vs H Q _ => ∃ x : Nat, vs = [.int (x : Int)] ∧ Q (.bl (decide (2 ≤ x ∧ x ≤ 9))) H
def spIsShare : Sp := fun vs H Q _ => ∃ x y z : Nat, vs = [.int (x : Int), .int (y : Int), .int (z : Int)] ∧ Q (.bl (decide (¬ (x < 2 ∨ 9 < x ∨ x ≤ y ∨ z < 1 ∨ x < z)))) H
def spNInit (C D : Addr) : Sp := fun vs H Q _ => ∃ (n dx : Addr), vs = [.ref n] ∧ H n = some (.ins D dx []) ∧ ∀ (la : Addr) (H' : Hp), NightAt C D H' n la [] → H la = none → (∀ b o, H b = some o → b ≠ n → H' b = some o) → Q .non H'
def spPartSizes (C D : Addr) : Sp := fun vs H Q _ => ∃ (n la : Addr) (l : Uw79.Night) (x : Nat), vs = [.ref n, .int (x : Int)] ∧ NightAt C D H n la l ∧ Uwm.Ok l ∧
  ∀ (H' : Hp) (p : Addr), Same H H' → H p = none → H' p = some (.lst ((Uw79.ints (Uwm.szs l x)).map V.int)) → Q (.ref p) H'
/-! ### what the top has written -/
structure Txt (K : PySem.W.Frag) (mg : Str → Option Value) (C D : Addr) : Prop where
  clC : Cls K C
  clD : Cls K D
  nParts : NoAttr K C "parts"
  nOver : NoAttr K C "over"
  nTaken : NoAttr K C "taken"
  nShares : NoAttr K D "shares"
  mgC : mg "Share" = some (.ref C)
  mgD : mg "Night" = some (.ref D)
  len : mg "len" = none
  range : mg "range" = none
  zip : mg "zip" = none
  sum : mg "sum" = none
  cMost : ∃ t, mg "MOST_SHARES" = some (.int 10 t)
  cLeastParts : ∃ t, mg "LEAST_PARTS" = some (.int 2 t)
  cMostParts : ∃ t, mg "MOST_PARTS" = some (.int 9 t)
  cWrong : ∃ t, mg "WRONG_NUMBER" = some (.int (-1) t)
  cDoesNot : ∃ t, mg "DOES_NOT_GO" = some (.int (-3) t)
  cTooMany : ∃ t, mg "TOO_MANY_SHARES" = some (.int (-5) t)
  cNoShare : ∃ t, mg "NO_SHARE" = some (.int (-9) t)
/-- a method's promise, with all that a call of it wants -/
def MethOk (P : Program) (w : World) (K : PySem.W.Frag) (mg : Str → Option Value) (base : Heap) (C : Addr) (m : Str) (k : Nat) (ps : List Str) (sp : Sp) : Prop :=
  ∃ (f : Addr) (fd : FuncData), FnOk P w K mg base CX0 k f fd ps sp ∧ Binds K fd ps [] ∧ Meth K C m f
def DefOk (P : Program) (w : World) (K : PySem.W.Frag) (mg : Str → Option Value) (base : Heap) (x : Str) (k : Nat) (ps : List Str) (sp : Sp) : Prop :=
  ∃ (f : Addr) (fd : FuncData), FnOk P w K mg base CX0 k f fd ps sp ∧ Binds K fd ps [] ∧ mg x = some (.ref f) ∧ PySem.W.keepIn K (.ref f) = true
def MakeOk (P : Program) (w : World) (K : PySem.W.Frag) (mg : Str → Option Value) (base : Heap) (C : Addr) (k : Nat) (ps : List Str) (sp : Sp) : Prop :=
  ∃ (f : Addr) (fd : FuncData), FnOk P w K mg base CX0 k f fd ps sp ∧ Binds K fd ps [] ∧ Mk K C f
section
variable {P : Program} {w : World} {K : PySem.W.Frag} {mg : Str → Option Value} {base : Heap} {C D : Addr}
/-! ### Share -/
theorem scShInit : FnScope ["self", "parts", "over", "taken"] ["self", "parts", "over", "taken"] (defScope sShInit) := ⟨rfl, rfl, rfl, by decide +kernel, rfl, by decide +kernel, by decide +kernel⟩
theorem ok_shInit {f : Addr} {fd : FuncData} (F : Fun K "__init__" "Share.__init__" sShInit f fd) (T : Txt K mg C D) : FnOk P w K mg base CX0 1 f fd ["self", "parts", "over", "taken"] (spShInit C) := by
  refine F.ok scShInit (fun vs H Q E h => ?_) (fun cdv A outer s H vs Q E hr h => ?_)
  · obtain ⟨a, dx, s, rfl, _⟩ := h
    rfl
  · obtain ⟨a, dx, s, rfl, hp, k⟩ := h
    refine ⟨_, pss_cons (ps_fld (pv 0) (pv 1) rfl) (pss_cons (ps_fld (pv 0) (pv 2) rfl) (pss_one (ps_fld (pv 0) (pv 3) rfl))), ?_⟩
    refine ⟨_, rfl, _, rfl, a, C, dx, [], rfl, hp, T.clC, T.nParts, (by show 0 < 1000; decide), _, rfl, _, rfl, a, C, dx, _, rfl, upd_same, T.clC, T.nOver, few1 _ _, _, rfl, _, rfl, a, C, dx, _, rfl, upd_same, T.clC, T.nTaken, few2 _ _ _ _, ?_⟩
    exact k _ ⟨dx, upd_same⟩ fun b o e hb => by rw [upd_ne hb, upd_ne hb, upd_ne hb]; exact e
theorem scGoesWith : FnScope ["self", "heap"] ["self", "heap"] (defScope sGoesWith) := ⟨rfl, rfl, rfl, by decide +kernel, rfl, by decide +kernel, by decide +kernel⟩
theorem dec_mod (x p r : Nat) : decide (V.int ((x : Int) % (p : Int)) = V.int (r : Int)) = decide (x % p = r) := by
  have e : ((x : Int) % (p : Int)) = ((x % p : Nat) : Int) := (Int.natCast_emod x p).symm
  rw [e, Bool.eq_iff_iff]
  simp only [decide_eq_true_eq, V.int.injEq]
  omega
theorem ok_goesWith {f : Addr} {fd : FuncData} (F : Fun K "goes_with" "Share.goes_with" sGoesWith f fd) (T : Txt K mg C D) : FnOk P w K mg base CX0 1 f fd ["self", "heap"] (spGoesWith C) := by
  refine F.ok scGoesWith (fun vs H Q E h => ?_) (fun cdv A outer s H vs Q E hr h => ?_)
  · obtain ⟨a, s, x, rfl, _⟩ := h
    rfl
  · obtain ⟨a, s, x, rfl, ⟨dx, h1⟩, hg, k⟩ := h
    refine ⟨_, pss_one (ps_ret (pe_cmpR op_eq (pe_op op_mod (pv 1) (pe_fld (pv 0) rfl)) (pe_fld (pv 0) rfl) (nomark _))), ?_⟩
    refine ⟨_, rfl, _, rfl, a, C, dx, _, _, rfl, h1, T.clC, T.nParts, shf_parts s, _, _, rfl, rfl, (by have := hg.1; omega), _, rfl, a, C, dx, _, _, rfl, h1, T.clC, T.nOver, shf_over s, rfl, ?_⟩
    show Q (V.bl (decide (V.int ((x : Int) % (s.p : Int)) = V.int (s.r : Int)))) H
    rw [dec_mod]
    exact k
theorem scPartSize : FnScope ["self", "heap"] ["self", "heap"] (defScope sPartSize) := ⟨rfl, rfl, rfl, by decide +kernel, rfl, by decide +kernel, by decide +kernel⟩
theorem ok_partSize {f : Addr} {fd : FuncData} (F : Fun K "part_size" "Share.part_size" sPartSize f fd) (T : Txt K mg C D) : FnOk P w K mg base CX0 1 f fd ["self", "heap"] (spPartSize C) := by
  refine F.ok scPartSize (fun vs H Q E h => ?_) (fun cdv A outer s H vs Q E hr h => ?_)
  · obtain ⟨a, s, x, rfl, _⟩ := h
    rfl
  · obtain ⟨a, s, x, rfl, ⟨dx, h1⟩, hg, hx, k⟩ := h
    refine ⟨_, pss_one (ps_ret (pe_op op_fdiv (pe_op op_sub (pv 1) (pe_fld (pv 0) rfl)) (pe_fld (pv 0) rfl))), ?_⟩
    refine ⟨_, rfl, _, rfl, a, C, dx, _, _, rfl, h1, T.clC, T.nOver, shf_over s, _, _, rfl, rfl, _, rfl, a, C, dx, _, _, rfl, h1, T.clC, T.nParts, shf_parts s, _, _, rfl, rfl, ⟨by have := hg.1; omega, by have := hg.2.1; omega⟩, ?_⟩
    have e : (((x : Int) - (s.r : Int)) / (s.p : Int)) = (((x - s.r) / s.p : Nat) : Int) := by
      have e1 : ((x : Int) - (s.r : Int)) = ((x - s.r : Nat) : Int) := by omega
      rw [e1]
      exact (Int.natCast_ediv _ _).symm
    show Q (V.int (((x : Int) - (s.r : Int)) / (s.p : Int))) H
    rw [e]
    exact k
theorem scHeapBehind : FnScope ["self", "size"] ["self", "size"] (defScope sHeapBehind) := ⟨rfl, rfl, rfl, by decide +kernel, rfl, by decide +kernel, by decide +kernel⟩
theorem ok_heapBehind {f : Addr} {fd : FuncData} (F : Fun K "heap_behind" "Share.heap_behind" sHeapBehind f fd) (T : Txt K mg C D) : FnOk P w K mg base CX0 1 f fd ["self", "size"] (spHeapBehind C) := by
  refine F.ok scHeapBehind (fun vs H Q E h => ?_) (fun cdv A outer s H vs Q E hr h => ?_)
  · obtain ⟨a, s, x, rfl, _⟩ := h
    rfl
  · obtain ⟨a, s, x, rfl, ⟨dx, h1⟩, hg, k⟩ := h
    refine ⟨_, pss_one (ps_ret (pe_op op_mul (pe_op op_sub (pe_fld (pv 0) rfl) (pe_fld (pv 0) rfl)) (pv 1))), ?_⟩
    obtain ⟨g1, g2, g3, g4, g5⟩ := hg
    refine ⟨_, rfl, a, C, dx, _, _, rfl, h1, T.clC, T.nParts, shf_parts s, _, rfl, a, C, dx, _, _, rfl, h1, T.clC, T.nTaken, shf_taken s, _, _, rfl, rfl, _, rfl, _, _, rfl, rfl, .inl ⟨by omega, by omega⟩, ?_⟩
    have e : (((s.p : Int) - (s.t : Int)) * (x : Int)) = (((s.p - s.t) * x : Nat) : Int) := by
      have e1 : ((s.p : Int) - (s.t : Int)) = ((s.p - s.t : Nat) : Int) := by omega
      rw [e1]
      exact (Int.natCast_mul _ _).symm
    show Q (V.int (((s.p : Int) - (s.t : Int)) * (x : Int))) H
    rw [e]
    exact k
/-! ### is_parts, is_share -/
theorem scIsParts : FnScope ["number"] ["number"] (defScope sIsParts) := ⟨rfl, rfl, rfl, by decide +kernel, rfl, by decide +kernel, by decide +kernel⟩
theorem ok_isParts {f : Addr} {fd : FuncData} (F : Fun K "is_parts" "is_parts" sIsParts f fd) (T : Txt K mg C D) : FnOk P w K mg base CX0 1 f fd ["number"] spIsParts := by
  obtain ⟨t1, c1⟩ := T.cLeastParts
  obtain ⟨t2, c2⟩ := T.cMostParts
  refine F.ok scIsParts (fun vs H Q E h => ?_) (fun cdv A outer s H vs Q E hr h => ?_)
  · obtain ⟨x, rfl, _⟩ := h
    rfl
  · obtain ⟨x, rfl, k⟩ := h
    refine ⟨_, pss_one (ps_ret (pe_chain op_le op_le (pe_glob (v := .int 2) rfl c1 ⟨t1, rfl⟩) (pv 0) (pe_glob (v := .int 9) rfl c2 ⟨t2, rfl⟩))), ?_⟩
    refine ⟨_, rfl, _, _, rfl, rfl, _, rfl, ite2 (fun h1 => ?_) fun h1 => ?_⟩
    · have h1' : (2 : Int) ≤ (x : Int) := of_decide_eq_true h1
      refine ⟨_, _, rfl, rfl, ?_⟩
      have e : decide ((x : Int) ≤ 9) = decide (2 ≤ x ∧ x ≤ 9) := by
        rw [Bool.eq_iff_iff]
        simp only [decide_eq_true_eq]
        omega
      show Q (V.bl (decide ((x : Int) ≤ 9))) H
      rw [e]
      exact k
    · have h1' : ¬ (2 : Int) ≤ (x : Int) := fun q => h1 (decide_eq_true q)
      have e : decide (2 ≤ x ∧ x ≤ 9) = false := decide_eq_false (by omega)
      rw [e] at k
      exact k
theorem scIsShare : FnScope ["parts", "over", "taken"] ["parts", "over", "taken"] (defScope sIsShare) := ⟨rfl, rfl, rfl, by decide +kernel, rfl, by decide +kernel, by decide +kernel⟩
theorem ok_isShare {f : Addr} {fd : FuncData} (F : Fun K "is_share" "is_share" sIsShare f fd) (T : Txt K mg C D) (GP : DefOk P w K mg base "is_parts" 1 ["number"] spIsParts) : FnOk P w K mg base CX0 2 f fd ["parts", "over", "taken"] spIsShare := by
  obtain ⟨fp, fdp, GP, bP, mP, kP⟩ := GP
  refine F.ok scIsShare (fun vs H Q E h => ?_) (fun cdv A outer s H vs Q E hr h => ?_)
  · obtain ⟨x, y, z, rfl, _⟩ := h
    rfl
  · obtain ⟨x, y, z, rfl, k⟩ := h
    refine ⟨_, pss_one (ps_ret (pe_and (pe_call GP hr rfl mP kP bP .nil pass0 (pa_cons (pv 0) pa_nil)) (pe_and (pe_chain op_le op_lt pe_int (pv 1) (pv 0)) (pe_one (pe_chain op_le op_le pe_int (pv 2) (pv 0)))))), ?_⟩
    refine ⟨_, rfl, x, rfl, _, rfl, ite2 (fun h1 => ?_) fun h1 => ?_⟩
    · have h1 : 2 ≤ x ∧ x ≤ 9 := of_decide_eq_true h1
      refine ⟨_, rfl, _, _, rfl, rfl, _, rfl, ite2 (fun _ => ?_) fun h2 => (h2 (decide_eq_true (by omega))).elim⟩
      refine ⟨_, rfl, _, _, rfl, rfl, _, rfl, ite2 (fun h2 => ?_) fun h2 => ?_⟩
      · have h2 : (y : Int) < (x : Int) := of_decide_eq_true h2
        refine ⟨_, rfl, _, _, rfl, rfl, _, rfl, ite2 (fun h3 => ?_) fun h3 => ?_⟩
        · have h3 : (1 : Int) ≤ (z : Int) := of_decide_eq_true h3
          refine ⟨_, rfl, _, _, rfl, rfl, ?_⟩
          have e : decide ((z : Int) ≤ (x : Int)) = decide (¬ (x < 2 ∨ 9 < x ∨ x ≤ y ∨ z < 1 ∨ x < z)) := by
            rw [Bool.eq_iff_iff]
            simp only [decide_eq_true_eq]
            omega
          show Q (V.bl (decide ((z : Int) ≤ (x : Int)))) H
          rw [e]
          exact k
        · have h3 : ¬ (1 : Int) ≤ (z : Int) := fun q => h3 (decide_eq_true q)
          have e : decide (¬ (x < 2 ∨ 9 < x ∨ x ≤ y ∨ z < 1 ∨ x < z)) = false := decide_eq_false (by omega)
          rw [e] at k
          exact k
      · have h2 : ¬ (y : Int) < (x : Int) := fun q => h2 (decide_eq_true q)
        have e : decide (¬ (x < 2 ∨ 9 < x ∨ x ≤ y ∨ z < 1 ∨ x < z)) = false := decide_eq_false (by omega)
        rw [e] at k
        exact k
    · have h1 : ¬ (2 ≤ x ∧ x ≤ 9) := fun q => h1 (decide_eq_true q)
      have e : decide (¬ (x < 2 ∨ 9 < x ∨ x ≤ y ∨ z < 1 ∨ x < z)) = false := decide_eq_false (by omega)
      rw [e] at k
      exact k
/-! ### Night: __init__, begin -/
theorem night_new {H : Hp} {n dx la : Addr} (hl : H la = none) (hn : H n ≠ none) : NightAt C D (upd (upd H la (.lst [])) n (.ins D dx (nf la))) n la [] := by
  have ne : la ≠ n := fun e => hn (e ▸ hl)
  refine ⟨⟨dx, upd_same⟩, [], ⟨?_, rfl, fun j a s h1 _ => by simp at h1⟩⟩
  rw [upd_ne ne, upd_same]
  rfl
theorem scNInit : FnScope ["self"] ["self"] (defScope sNInit) := ⟨rfl, rfl, rfl, by decide +kernel, rfl, by decide +kernel, by decide +kernel⟩
theorem ok_nInit {f : Addr} {fd : FuncData} (F : Fun K "__init__" "Night.__init__" sNInit f fd) (T : Txt K mg C D) : FnOk P w K mg base CX0 1 f fd ["self"] (spNInit C D) := by
  refine F.ok scNInit (fun vs H Q E h => ?_) (fun cdv A outer s H vs Q E hr h => ?_)
  · obtain ⟨n, dx, rfl, _⟩ := h
    rfl
  · obtain ⟨n, dx, rfl, hp, k⟩ := h
    refine ⟨_, pss_one (ps_fld (pv 0) (pe_lst pa_nil) rfl), ?_⟩
    refine ⟨Nat.zero_le _, fun la hl => ⟨_, rfl, n, D, dx, [], rfl, (same_upd hl) _ _ hp, T.clD, T.nShares, (by show 0 < 1000; decide), ?_⟩⟩
    refine k la _ (night_new hl (by rw [hp]; simp)) hl fun b o e hb => ?_
    rw [upd_ne hb]
    exact same_upd hl _ _ e
theorem scBegin : FnScope ["self"] ["self"] (defScope sBegin) := ⟨rfl, rfl, rfl, by decide +kernel, rfl, by decide +kernel, by decide +kernel⟩
theorem ok_begin {f : Addr} {fd : FuncData} (F : Fun K "begin" "Night.begin" sBegin f fd) (T : Txt K mg C D) : FnOk P w K mg base CX0 1 f fd ["self"] (spN0 C D .night) := by
  refine F.ok scBegin (fun vs H Q E h => ?_) (fun cdv A outer s H vs Q E hr h => ?_)
  · obtain ⟨n, la, l, rfl, _⟩ := h
    rfl
  · obtain ⟨n, la, l, rfl, ⟨⟨dx, hn⟩, as, S⟩, ok, k⟩ := h
    refine ⟨_, pss_cons (ps_fld (pv 0) (pe_lst pa_nil) rfl) (pss_one (ps_ret (pe_lst (pa_cons pe_int pa_nil)))), ?_⟩
    refine ⟨Nat.zero_le _, fun lb hl => ⟨_, rfl, n, D, dx, _, rfl, (same_upd hl) _ _ hn, T.clD, T.nShares, few1 _ _, (by show 1 ≤ sizeLine; decide), fun p hp => ?_⟩⟩
    have N := night_new (C := C) (D := D) (dx := dx) hl (by rw [hn]; simp)
    rw [← nf_put la lb] at N
    have e1 : H p = none := (same_upd (o := .lst []) hl).free (by
      cases e : upd H lb (.lst []) p with
      | none => rfl
      | some o =>
        by_cases hpn : p = n
        · subst hpn
          rw [upd_same] at hp
          cases hp
        · rw [upd_ne hpn, e] at hp
          cases hp)
    refine k lb _ p (N.same (same_upd hp)) (.inr hl) (fun b o e hb _ => ?_) upd_same e1
    rw [upd_ne (ne_of_none e e1), upd_ne hb]
    exact same_upd hl _ _ e
end
end Uwp

end

section
set_option Elab.async false
set_option linter.all false
set_option maxRecDepth 100000
set_option maxHeartbeats 4000000
namespace Uwp
open PySem PySem.Spec PyProof.Rows L2
open PySem.W (Codec)
theorem boot_sum : bootBuiltins "sum" = some (.builtin "sum") := by decide +kernel
/-- a comprehension over zip of two lists that the block leaves as they are -/
theorem lc_zip {K : PySem.W.Frag} {a b : Addr} {xs ys : List V} {g : TG} {tt : TT} {te : TE} {vs : List Nat} {σ : L2.St} {H1 : Hp} {D : Addr} {Qd : Hp → Prop} (Pv : Nat → Hp → Prop) (h0 : Pv 0 (upd H1 D (.lst [])))
    (hl : ∀ i H, Pv i H → SqL K H a xs ∧ SqL K H b ys)
    (hs : ∀ i x y T H, xs[i]? = some x → ys[i]? = some y → Pv i H → H T = none → g (.ref T) (wipe σ vs) (upd H T (.tup [x, y])) fun σ2 H2 => wipe σ2 vs = wipe σ vs ∧ tt σ2 H2 fun b H3 =>
      if b = true then te σ2 H3 fun y H4 => ∃ acc, H4 D = some (.lst acc) ∧ acc.length < sizeLine ∧ Pv (i + 1) (upd H4 D (.lst (acc ++ [y]))) else Pv (i + 1) H3) (hd : ∀ H, Pv (min xs.length ys.length) H → Qd H) :
    ∃ W : Nat → Nat → Hp → Prop, (∃ m, W 0 m (upd H1 D (.lst []))) ∧ ∀ i m H, W i m H →
      ((Itz K a b).stop i H ∧ Qd H) ∨ ((Itz K a b).go i H ∧ ∃ Nx : Hp → Prop, (∀ H', Nx H' → ∃ m', m' < m ∧ W (i + 1) m' H') ∧ ∀ x H', (Itz K a b).yld i H x H' → g x (wipe σ vs) H' fun σ2 H2 => wipe σ2 vs = wipe σ vs ∧ tt σ2 H2 fun b H3 =>
        if b = true then te σ2 H3 fun y H4 => ∃ acc, H4 D = some (.lst acc) ∧ acc.length < sizeLine ∧ Nx (upd H4 D (.lst (acc ++ [y]))) else Nx H3) := by
  refine ⟨fun i m H => m = min xs.length ys.length - i ∧ i ≤ min xs.length ys.length ∧ Pv i H, ⟨min xs.length ys.length, by simp, Nat.zero_le _, h0⟩, ?_⟩
  rintro i m H ⟨rfl, hi, p⟩
  obtain ⟨qx, qy⟩ := hl i H p
  by_cases hlt : i < min xs.length ys.length
  · have hx : i < xs.length := by omega
    have hy : i < ys.length := by omega
    refine .inr ⟨⟨xs, ys, xs[i], ys[i], qx, qy, by simp [hx], by simp [hy]⟩, Pv (i + 1), fun H' p' => ⟨min xs.length ys.length - (i + 1), by omega, rfl, hlt, p'⟩, fun x H' y => ?_⟩
    obtain ⟨T, x1, y1, rfl, hT, rfl, e1, e2⟩ := y
    exact hs i x1 y1 T H (e1 xs qx) (e2 ys qy) p hT
  · have e : i = min xs.length ys.length := by omega
    subst e
    exact .inl ⟨⟨xs, ys, qx, qy, by omega⟩, hd H p⟩
theorem tyes {σ : L2.St} {H : Hp} {A B : Hp → Prop} (h : A H) : tYes σ H (fun b H3 => if b = true then A H3 else B H3) := by
  show if true = true then A H else B H
  rw [if_pos rfl]
  exact h
theorem map_take_snoc {α : Type} {l : List α} {i : Nat} {x : α} (f : α → V) (h : l[i]? = some x) : (l.take i).map f ++ [f x] = (l.take (i + 1)).map f := by
  rw [Uwm.take_snoc h, List.map_append]
  rfl
section
variable {P : Program} {w : World} {K : PySem.W.Frag} {mg : Str → Option Value} {base : Heap} {C D : Addr}
/-! ### undo -/
theorem scUndo : FnScope ["self"] ["self"] (defScope sUndo) := ⟨rfl, rfl, rfl, by decide +kernel, rfl, by decide +kernel, by decide +kernel⟩
theorem ok_undo {f : Addr} {fd : FuncData} (F : Fun K "undo" "Night.undo" sUndo f fd) (T : Txt K mg C D) : FnOk P w K mg base CX0 1 f fd ["self"] (spN0 C D .undo) := by
  obtain ⟨t1, c1⟩ := T.cNoShare
  refine F.ok scUndo (fun vs H Q E h => ?_) (fun cdv A outer s H vs Q E hr h => ?_)
  · obtain ⟨n, la, l, rfl, _⟩ := h
    rfl
  · obtain ⟨n, la, l, rfl, N, ok, k⟩ := h
    obtain ⟨⟨dx, hn⟩, as, S⟩ := id N
    refine ⟨_, pss_cons (ps_if (pt_cmpR op_eq (pe_callB call_len_seq (by rfl) T.len PySem.boot_len (pa_cons (pe_fld (pv 0) rfl) pa_nil)) pe_int (nomark _)) (pss_one (ps_ret (pe_lst (pa_cons (pe_glob (v := .int (-9)) rfl c1 ⟨t1, rfl⟩) pa_nil)))) pss_nil)
      (pss_cons (ps_expr (pe_bm0 PySem.F.plainAttrs_list PySem.F.slot_list_pop PySem.F.type_list_pop mt_pop (pe_fld (pv 0) rfl)))
      (pss_one (ps_ret (pe_lst (pa_cons (pe_callB call_len_seq (by rfl) T.len PySem.boot_len (pa_cons (pe_fld (pv 0) rfl) pa_nil)) pa_nil))))), ?_⟩
    refine ⟨_, rfl, n, D, dx, _, _, rfl, hn, T.clD, T.nShares, nf_shares la, la, _, rfl, .inl (SqL.of S.lst), rfl, _, rfl, ite2 (fun h1 => ?_) fun h1 => ?_⟩
    · have e0 : l = [] := by
        have := of_decide_eq_true h1
        simp only [V.int.injEq, List.length_map] at this
        have hl := S.len
        exact List.length_eq_zero_iff.mp (by omega)
      subst e0
      refine ⟨(by show 1 ≤ sizeLine; decide), fun p hp => ?_⟩
      exact Res.ask N k _ p (same_upd hp) hp upd_same
    · have hne : as.length ≠ 0 := fun q => h1 (decide_eq_true (by rw [List.length_map, q]; rfl))
      obtain ⟨y, hy⟩ : ∃ y, (as.map V.ref)[(as.map V.ref).length - 1]? = some y := ⟨_, List.getElem?_eq_getElem (by rw [List.length_map]; omega)⟩
      refine ⟨_, rfl, n, D, dx, _, _, rfl, hn, T.clD, T.nShares, nf_shares la, .inl ⟨rfl, _, SqL.of S.lst⟩, la, _, y, rfl, rfl, S.lst, hy, ?_⟩
      have nln : n ≠ la := ne_of hn S.lst (by intro q; cases q)
      have hn' : upd H la (.lst (as.map V.ref).dropLast) n = some (.ins D dx (nf la)) := by rw [upd_ne nln]; exact hn
      have S' : SharesAt C (upd H la (.lst (as.map V.ref).dropLast)) la as.dropLast l.dropLast := by
        refine ⟨?_, ?_, fun j a s h1 h2 => ?_⟩
        · rw [upd_same, List.map_dropLast]
        · rw [List.length_dropLast, List.length_dropLast, S.len]
        · have ha : as[j]? = some a := by
            rw [List.getElem?_dropLast] at h1
            split at h1
            · exact h1
            · cases h1
          have hs : l[j]? = some s := by
            rw [List.getElem?_dropLast] at h2
            split at h2
            · exact h2
            · cases h2
          have q := S.at_ j a s ha hs
          refine q.keep fun o e => ?_
          obtain ⟨da, ea⟩ := q
          rw [upd_ne (ne_of ea S.lst (by intro q; cases q))]
          exact e
      refine ⟨_, rfl, n, D, dx, _, _, rfl, hn', T.clD, T.nShares, nf_shares la, la, _, rfl, .inl (SqL.of S'.lst), (by show 1 ≤ sizeLine; decide), fun p hp => ?_⟩
      have hp0 : H p = none := by
        by_cases e : p = la
        · subst e
          rw [upd_same] at hp
          cases hp
        · rw [upd_ne e] at hp
          exact hp
      have el : l.isEmpty = false := by
        cases l with
        | nil => exact absurd S.len hne
        | cons a r => rfl
      have es : Uw79.step l .undo = (l.dropLast, [(l.dropLast.length : Int)]) := by
        show (if l.isEmpty = true then (l, [-9]) else Uw79.many l.dropLast) = _
        rw [el, if_neg (by decide)]
        rfl
      rw [es] at k
      have N' : NightAt C D (upd H la (.lst (as.map V.ref).dropLast)) n la l.dropLast := ⟨⟨dx, hn'⟩, as.dropLast, S'⟩
      refine k la _ p (N'.same (same_upd hp)) (.inl rfl) (fun b o e _ hb => ?_) ?_ hp0
      · rw [upd_ne (ne_of_none e hp0), upd_ne hb]
        exact e
      · rw [upd_same, List.length_map, S'.len]
        rfl
/-! ### part_sizes -/
theorem scPartSizes : FnScope ["self", "heap", "sizes", "rest", "share", "size"] ["self", "heap"] (defScope sPartSizes) := ⟨rfl, rfl, rfl, by decide +kernel, rfl, by decide +kernel, by decide +kernel⟩
theorem ok_partSizes {f : Addr} {fd : FuncData} (F : Fun K "part_sizes" "Night.part_sizes" sPartSizes f fd) (T : Txt K mg C D) (GW : MethOk P w K mg base C "goes_with" 1 ["self", "heap"] (spGoesWith C)) (GP : MethOk P w K mg base C "part_size" 1 ["self", "heap"] (spPartSize C))
    (GB : MethOk P w K mg base C "heap_behind" 1 ["self", "size"] (spHeapBehind C)) : FnOk P w K mg base CX0 2 f fd ["self", "heap"] (spPartSizes C D) := by
  obtain ⟨fw, fdw, GW, bW, mW⟩ := GW
  obtain ⟨fp, fdp, GP, bP, mP⟩ := GP
  obtain ⟨fb, fdb, GB, bB, mB⟩ := GB
  refine F.ok scPartSizes (fun vs H Q E h => ?_) (fun cdv A outer s H vs Q E hr h => ?_)
  · obtain ⟨n, la, l, x, rfl, _⟩ := h
    rfl
  · obtain ⟨n, la, l, x, rfl, N, ok, k⟩ := h
    obtain ⟨⟨dx, hn⟩, as, S⟩ := id N
    refine ⟨_, pss_cons (ps_set (i := 2) scPartSizes.nd rfl (Or.inl rfl) (pe_lst pa_nil))
      (pss_cons (ps_set (i := 3) scPartSizes.nd rfl (Or.inl rfl) (pv 1))
      (pss_cons (ps_for PassesOwn.never rfl (pi_list (pe_fld (pv 0) rfl)) (pg_name (i := 4) scPartSizes.nd rfl (Or.inl rfl))
        (pss_cons (ps_if (pt_not (pt_val (pe_meth (pv 4) T.clC mW GW hr bW .nil pass0 (pa_cons (pv 3) pa_nil)))) (pss_one (ps_ret (pv 2))) pss_nil)
        (pss_cons (ps_set (i := 5) scPartSizes.nd rfl (Or.inl rfl) (pe_meth (pv 4) T.clC mP GP hr bP .nil pass0 (pa_cons (pv 3) pa_nil)))
        (pss_cons (ps_expr (pe_bm PySem.F.plainAttrs_list PySem.F.slot_list_append PySem.F.type_list_append mt_append (pv 2) (pa_cons (pv 5) pa_nil)))
        (pss_one (ps_set (i := 3) scPartSizes.nd rfl (Or.inl rfl) (pe_meth (pv 4) T.clC mB GB hr bB .nil pass0 (pa_cons (pv 5) pa_nil))))))))
      (pss_one (ps_ret (pv 2))))), ?_⟩
    refine ⟨Nat.zero_le _, fun q hq => ?_⟩
    have s0 : Same H (upd H q (.lst [])) := same_upd hq
    refine ⟨_, rfl, _, rfl, n, D, dx, _, _, rfl, s0 _ _ hn, T.clD, T.nShares, nf_shares la, la, rfl, ⟨_, SqL.of (s0 _ _ S.lst)⟩, for_list (K := K) (a := la) (xs := as.map V.ref)
      (fun i σ H' => ∃ v4 v5 : Option V, σ = [some (.ref n), some (.int (x : Int)), some (.ref q), some (.int (Uwm.rst (l.take i) x : Int)), v4, v5] ∧ Uwm.Go (l.take i) x ∧ H' q = some (.lst ((Uw79.ints (Uwm.szs (l.take i) x)).map V.int)) ∧ Same H H')
      ⟨none, none, rfl, trivial, upd_same, s0⟩ (fun i σ H' _ ⟨_, _, _, _, _, s1⟩ => SqL.of (s1 _ _ S.lst)) ?_ ?_⟩
    · rintro i y σ H' hi ⟨v4, v5, rfl, hgo, hq', s1⟩
      obtain ⟨a, sh, ha, hs, rfl, A1⟩ := (S.same s1).get hi
      have gs : Uwm.GoodS sh := ok.1 sh (List.mem_of_getElem? hs)
      obtain ⟨da, ea⟩ := id A1
      refine ⟨_, rfl, a, da, _, rfl, ea, shf_no sh (by decide +kernel) (by decide +kernel) (by decide +kernel), _, rfl, a, sh, _, rfl, A1, gs, _, rfl, ite2 (fun h1 => ?_) fun h1 => ?_⟩
      · -- it doesn't go
        have h2 : ¬ Uwm.rst (l.take i) x % sh.p = sh.r := by
          intro q
          rw [decide_eq_true q] at h1
          cases h1
        refine ⟨_, rfl, ?_⟩
        refine k H' q s1 hq ?_
        rw [hq']
        conv => rhs; rw [Uwm.split_at hs, Uwm.szs_stop _ _ _ _ hgo h2]
      · have h2 : Uwm.rst (l.take i) x % sh.p = sh.r := by
          by_cases q : Uwm.rst (l.take i) x % sh.p = sh.r
          · exact q
          · rw [decide_eq_false q] at h1
            exact absurd rfl h1
        have hle : sh.r ≤ Uwm.rst (l.take i) x := by
          have := Nat.mod_le (Uwm.rst (l.take i) x) sh.p
          omega
        refine ⟨_, rfl, a, da, _, rfl, ea, shf_no sh (by decide +kernel) (by decide +kernel) (by decide +kernel), _, rfl, a, sh, _, rfl, A1, gs, hle, ?_⟩
        refine ⟨_, rfl, .inl ⟨rfl, _, SqL.of hq'⟩, _, rfl, q, _, _, rfl, rfl, hq', ?_, ?_⟩
        · have h3 := Uwm.szs_le (l.take i) x
          have h4 : (l.take i).length ≤ l.length := by rw [List.length_take]; exact Nat.min_le_right _ _
          have h5 := ok.2
          refine small1000 ?_
          rw [List.length_map]
          unfold Uw79.ints
          rw [List.length_map]
          omega
        · have naq : a ≠ q := ne_of ea hq' (by intro z; cases z)
          have A2 : ShAt C (upd H' q (.lst ((Uw79.ints (Uwm.szs (l.take i) x)).map V.int ++ [V.int (((Uwm.rst (l.take i) x - sh.r) / sh.p : Nat) : Int)]))) a sh := A1.keep fun o e => by rw [upd_ne naq]; exact e
          obtain ⟨db, eb⟩ := id A2
          refine ⟨_, rfl, a, db, _, rfl, eb, shf_no sh (by decide +kernel) (by decide +kernel) (by decide +kernel), _, rfl, a, sh, _, rfl, A2, gs, ?_⟩
          have et := Uwm.take_snoc hs
          refine ⟨some (.ref a), some (.int (((Uwm.rst (l.take i) x - sh.r) / sh.p : Nat) : Int)), ?_, ?_, ?_, fun b o e => ?_⟩
          · rw [et, Uwm.rst_snoc]
            rfl
          · rw [et]
            exact (Uwm.go_snoc _ _ _).mpr ⟨hgo, h2⟩
          · rw [upd_same, et, Uwm.szs_go _ _ _ hgo h2]
            unfold Uw79.ints
            rw [List.map_append, List.map_append]
            rfl
          · rw [upd_ne (ne_of_none e hq)]
            exact s1 b o e
    · rintro σ H' ⟨v4, v5, rfl, hgo, hq', s1⟩
      have e1 : l.take (as.map V.ref).length = l := by
        rw [List.length_map, S.len, List.take_length]
      rw [e1] at hq'
      exact ⟨_, rfl, k H' q s1 hq hq'⟩
end
end Uwp

end

section
set_option Elab.async false
set_option linter.all false
set_option maxRecDepth 100000
set_option maxHeartbeats 4000000
namespace Uwp
open PySem PySem.Spec PyProof.Rows L2
/-! ### // by a divisor of any size up to 2^64 -/
def CDivB (i j : Int) : Prop := 0 < j ∧ j < 2 ^ 64
theorem noPy {x y : Int} (h : y.natAbs < 2 ^ 64) : Builtin.divisionGoesByPylong x y = false := by
  refine PyProof.noPylong_of_log2 ?_
  by_cases h0 : y.natAbs = 0
  · rw [h0]; decide +kernel
  · have h64 : y.natAbs.log2 < 64 := (Nat.log2_lt h0).mpr h
    omega
section
variable {X : Cx}
theorem op_fdivB : OpR X (binaryOp .FloorDiv) (rI CDivB fun i j => .int (i / j)) := opI fun i j _ _ _ _ _ hc q => by
  have h1 : (0 : Int) < j := hc.1
  have h2 : j < 2 ^ 64 := hc.2
  exact floordiv_int (by omega) (by rw [Int.fdiv_eq_ediv_of_nonneg i (by omega)]; exact q) (.inl (noPy (by omega)))
end
/-! ### loops: over reversed(list), zip(list, list), enumerate(list) -/
theorem for_rev {K : PySem.W.Frag} {a : Addr} {xs : List V} {g : TG} {tb : TS} {D : Ends} {σ : L2.St} {H : Hp} (Pv : Nat → L2.St → Hp → Prop) (h0 : Pv 0 σ H) (hl : ∀ i σ H, i ≤ xs.length → Pv i σ H → SqL K H a xs)
    (hs : ∀ i x σ H, i < xs.length → xs[xs.length - 1 - i]? = some x → Pv i σ H → g x σ H fun σ2 H2 => tb { D with nx := Pv (i + 1), ct := Pv (i + 1), bk := D.nx } σ2 H2) (hd : ∀ σ H, Pv xs.length σ H → D.nx σ H) :
    ∃ W : Nat → Nat → L2.St → Hp → Prop, (∃ m, W 0 m σ H) ∧ ∀ i m σ H, W i m σ H →
      ((Itv K a xs.length).stop i H ∧ D.nx σ H) ∨ ((Itv K a xs.length).go i H ∧ ∃ N : L2.St → Hp → Prop, (∀ σ' H', N σ' H' → ∃ m', m' < m ∧ W (i + 1) m' σ' H') ∧ ∀ x H', (Itv K a xs.length).yld i H x H' → g x σ H' fun σ2 H2 => tb { D with nx := N, ct := N, bk := D.nx } σ2 H2) := by
  refine ⟨fun i m σ H => m = xs.length - i ∧ i ≤ xs.length ∧ Pv i σ H, ⟨xs.length, by simp, Nat.zero_le _, h0⟩, ?_⟩
  rintro i m σ H ⟨rfl, hi, p⟩
  have q := hl i σ H hi p
  by_cases hlt : i < xs.length
  · have hx : xs.length - 1 - i < xs.length := by omega
    refine .inr ⟨⟨hlt, xs, xs[xs.length - 1 - i], q, List.getElem?_eq_getElem hx⟩, Pv (i + 1), fun σ' H' p' => ⟨xs.length - (i + 1), by omega, rfl, hlt, p'⟩, fun x H' y => ?_⟩
    obtain ⟨e, y⟩ := y
    subst e
    exact hs i x σ _ hlt (y xs q) p
  · have e : i = xs.length := by omega
    subst e
    exact .inl ⟨Nat.le_refl _, hd σ H p⟩
end Uwp

end

section
set_option Elab.async false
set_option linter.all false
set_option maxRecDepth 100000
set_option maxHeartbeats 4000000
namespace Uwp
open PySem PySem.Spec PyProof.Rows L2
open PySem.W (Codec)
theorem ints_get {l : List Nat} {i : Nat} {y : V} (h : ((Uw79.ints l).map V.int)[i]? = some y) : ∃ q, l[i]? = some q ∧ y = V.int (q : Int) := by
  unfold Uw79.ints at h
  rw [List.map_map, List.getElem?_map] at h
  cases e : l[i]? with
  | none =>
    rw [e] at h
    cases h
  | some q =>
    rw [e] at h
    exact ⟨q, rfl, (Option.some.inj h).symm⟩
theorem ints_len (l : List Nat) : ((Uw79.ints l).map V.int).length = l.length := by
  unfold Uw79.ints
  rw [List.length_map, List.length_map]
theorem ints_snoc {l : List Nat} {i q : Nat} (h : l[i]? = some q) : (Uw79.ints (l.take i)).map V.int ++ [V.int (q : Int)] = (Uw79.ints (l.take (i + 1))).map V.int := by
  rw [Uwm.take_snoc h]
  unfold Uw79.ints
  rw [List.map_append, List.map_append]
  rfl
abbrev lcS (names : List (Str × NameKind)) : Scope := { kind := .function, names := names, isGenerator := false, isCoroutine := false }
theorem zip_get {l : Uw79.Night} {zs : List Nat} {f : Uw79.Share → Nat → Nat} {i : Nat} {s : Uw79.Share} {q : Nat} (h1 : l[i]? = some s) (h2 : zs[i]? = some q) : (List.zipWith f l zs)[i]? = some (f s q) := by
  rw [List.getElem?_zipWith, h1, h2]
section
variable {P : Program} {w : World} {K : PySem.W.Frag} {mg : Str → Option Value} {base : Heap} {C D : Addr}
/-! ### goes -/
theorem scGoes : FnScope ["self", "heap", "sizes", "rests", "share", "size"] ["self", "heap"] (defScope sGoes) := ⟨rfl, rfl, rfl, by decide +kernel, rfl, by decide +kernel, by decide +kernel⟩
theorem bkGoes : BlkOk ["self", "heap", "sizes", "rests", "share", "size"] (defScope sGoes) (lcS [(".0", .local), ("share", .local), ("size", .local)]) [("share", 4), ("size", 5)] := blkOk_by (by decide +kernel)
theorem ok_goes {f : Addr} {fd : FuncData} (F : Fun K "goes" "Night.goes" sGoes f fd) (T : Txt K mg C D) (GS : MethOk P w K mg base D "part_sizes" 2 ["self", "heap"] (spPartSizes C D))
    (GB : MethOk P w K mg base C "heap_behind" 1 ["self", "size"] (spHeapBehind C)) : FnOk P w K mg base CX0 3 f fd ["self", "heap"] (spAsk1 C D fun l x => Uw79.counted (Uw79.goes l x)) := by
  obtain ⟨fs, fds, GS, bS, mS⟩ := GS
  obtain ⟨fb, fdb, GB, bB, mB⟩ := GB
  refine F.ok scGoes (fun vs H Q E h => ?_) (fun cdv A outer s H vs Q E hr h => ?_)
  · obtain ⟨n, la, l, x, rfl, _⟩ := h
    rfl
  · obtain ⟨n, la, l, x, rfl, hx, N, ok, k⟩ := h
    obtain ⟨⟨dx, hn⟩, as, S⟩ := id N
    have hr1 : Room 1 _ := hr.mono (by decide)
    refine ⟨_, pss_cons (ps_set (i := 2) scGoes.nd rfl (Or.inl rfl) (pe_meth (pv 0) T.clD mS GS hr bS .nil pass0 (pa_cons (pv 1) pa_nil)))
      (pss_cons (ps_setLc (i := 3) (own := [("share", 4), ("size", 5)]) (g := gTup K 2 (gCons (gName 4) (gCons (gName 5) gNil))) (te := tMeth C "heap_behind" (spHeapBehind C) [] E0 (tVar 4) (tCons (tVar 5) tNil)) rfl scGoes.nd rfl rfl (sw_true rfl rfl rfl (by decide +kernel)) (pi_zip rfl T.zip (pa_cons (pe_fld (pv 0) rfl) (pa_cons (pv 2) pa_nil))) bkGoes
        (fun _ _ _ _ _ => pg_tup rfl (pgs_cons (pg_name (i := 4) scGoes.nd rfl (Or.inl rfl)) (pgs_cons (pg_name (i := 5) scGoes.nd rfl (Or.inl rfl)) pgs_nil))) (fun _ _ _ _ _ => pts_nil)
        (fun _ _ _ _ _ => pe_meth (pv 4) T.clC mB GB hr1 bB .nil pass0 (pa_cons (pv 5) pa_nil)))
      (pss_one (ps_ret (pe_op op_cat (pe_lst (pa_cons (pe_callB call_len_seq (by rfl) T.len PySem.boot_len (pa_cons (pv 3) pa_nil)) pa_nil)) (pv 3))))), ?_⟩
    refine ⟨_, rfl, n, dx, _, rfl, hn, nf_no la (by decide +kernel), _, rfl, n, la, l, x, rfl, N, ok, fun H1 q s1 hq hq1 => ?_⟩
    have S1 := S.same s1
    refine ⟨_, rfl, n, D, dx, _, _, rfl, s1 _ _ hn, T.clD, T.nShares, nf_shares la, _, rfl, la, q, _, _, rfl, SqL.of S1.lst, SqL.of hq1, fun R hR => ?_⟩
    have sR : Same H1 (upd H1 R (.lst [])) := same_upd hR
    refine lc_zip (K := K) (xs := as.map V.ref) (ys := (Uw79.ints (Uwm.szs l x)).map V.int)
      (fun i H' => H' R = some (.lst ((Uw79.ints ((Uw79.goes l x).take i)).map V.int)) ∧ Same H1 H') ⟨upd_same, sR⟩ (fun i H' ⟨_, s2⟩ => ⟨SqL.of (s2 _ _ S1.lst), SqL.of (s2 _ _ hq1)⟩) ?_ ?_
    · rintro i y z t H' hi hz ⟨hR', s2⟩ ht
      obtain ⟨a, sh, ha, hs, rfl, A1⟩ := (S1.same s2).get hi
      obtain ⟨v, hv, rfl⟩ := ints_get hz
      have gs : Uwm.GoodS sh := ok.1 sh (List.mem_of_getElem? hs)
      have st : Same H' (upd H' t (.tup [V.ref a, V.int (v : Int)])) := same_upd ht
      have A2 := A1.keep (H' := upd H' t (.tup [V.ref a, V.int (v : Int)])) fun o e => st _ _ e
      obtain ⟨da, ea⟩ := id A2
      refine ⟨t, _, rfl, SqT.of upd_same, rfl, _, _, rfl, _, _, rfl, rfl, rfl, tyes ?_⟩
      refine ⟨_, rfl, a, da, _, rfl, ea, shf_no sh (by decide +kernel) (by decide +kernel) (by decide +kernel), _, rfl, a, sh, v, rfl, A2, gs, _, st _ _ hR', ?_, ?_, fun b o e => ?_⟩
      · refine small1000 ?_
        rw [ints_len, List.length_take]
        have h3 := Uwm.goes_len_le l x
        have h5 := ok.2
        omega
      · have hg : (Uw79.goes l x)[i]? = some ((sh.p - sh.t) * v) := by
          rw [Uwm.goes_szs]
          exact zip_get hs hv
        rw [upd_same, ints_snoc hg]
      · rw [upd_ne (ne_of_none e hR)]
        exact st _ _ (s2 b o e)
    · rintro H' ⟨hR', s2⟩
      have el : (Uw79.goes l x).take (min (as.map V.ref).length ((Uw79.ints (Uwm.szs l x)).map V.int).length) = Uw79.goes l x := by
        refine List.take_of_length_le ?_
        rw [ints_len, List.length_map, S.len, Uwm.goes_len]
        have := Uwm.szs_le l x
        omega
      rw [el] at hR'
      have hlen : (Uw79.goes l x).length ≤ 10 := Nat.le_trans (Uwm.goes_len_le l x) ok.2
      refine ⟨_, rfl, R, _, rfl, .inl (SqL.of hR'), (by show 1 ≤ sizeLine; decide), fun p hp => ?_⟩
      have sp : Same H' (upd H' p (.lst [V.int (((Uw79.ints (Uw79.goes l x)).map V.int).length : Int)])) := same_upd hp
      refine ⟨_, rfl, p, R, _, _, rfl, rfl, upd_same, sp _ _ hR', ?_, fun r hr' => ?_⟩
      · refine Nat.le_of_lt (small1000 ?_)
        rw [ints_len]
        show 1 + _ ≤ 1000
        omega
      · refine k _ r (((s1.trans s2).trans sp).trans (same_upd hr')) (((s1.trans s2).trans sp).free hr') ?_
        rw [upd_same, ints_len]
        rfl
/-! ### monkey_gets, taken_of, left_of, gets -/
def spMonkey (C D : Addr) : Sp := fun vs H Q _ => ∃ (n la : Addr) (l : Uw79.Night), vs = [.ref n] ∧ NightAt C D H n la l ∧ Uwm.Ok l ∧ ∀ H' : Hp, Same H H' → Q (.int (Uw79.monkey l : Int)) H'
def spTakenOf (C D : Addr) : Sp := fun vs H Q _ => ∃ (n la : Addr) (l : Uw79.Night) (x : Nat), vs = [.ref n, .int (x : Int)] ∧ NightAt C D H n la l ∧ Uwm.Ok l ∧
  ∀ (H' : Hp) (p : Addr), Same H H' → H p = none → H' p = some (.lst ((Uw79.ints (Uw79.takes l x)).map V.int)) → Q (.ref p) H'
def spLeftOf (C D : Addr) : Sp := fun vs H Q _ => ∃ (n la : Addr) (l : Uw79.Night) (x : Nat), vs = [.ref n, .int (x : Int)] ∧ NightAt C D H n la l ∧ Uwm.Ok l ∧ Uwm.Go l x ∧ ∀ H' : Hp, Same H H' → Q (.int (Uwm.rst l x : Int)) H'
theorem scMonkeyGets : FnScope ["self", "share"] ["self"] (defScope sMonkeyGets) := ⟨rfl, rfl, rfl, by decide +kernel, rfl, by decide +kernel, by decide +kernel⟩
theorem bkMonkeyGets : BlkOk ["self", "share"] (defScope sMonkeyGets) (lcS [(".0", .local), ("share", .local)]) [("share", 1)] := blkOk_by (by decide +kernel)
theorem ok_monkeyGets {f : Addr} {fd : FuncData} (F : Fun K "monkey_gets" "Night.monkey_gets" sMonkeyGets f fd) (T : Txt K mg C D) : FnOk P w K mg base CX0 1 f fd ["self"] (spMonkey C D) := by
  refine F.ok scMonkeyGets (fun vs H Q E h => ?_) (fun cdv A outer s H vs Q E hr h => ?_)
  · obtain ⟨n, la, l, rfl, _⟩ := h
    rfl
  · obtain ⟨n, la, l, rfl, N, ok, k⟩ := h
    obtain ⟨⟨dx, hn⟩, as, S⟩ := id N
    refine ⟨_, pss_one (ps_ret (pe_callB (cr_sum rfl) (by rfl) T.sum boot_sum (pa_cons (pe_lc (own := [("share", 1)]) (te := tFld K (tVar 1) "over") rfl scMonkeyGets.nd (pi_list (pe_fld (pv 0) rfl)) bkMonkeyGets
        (fun _ _ _ _ _ => pg_name (i := 1) scMonkeyGets.nd rfl (Or.inl rfl)) (fun _ _ _ _ _ => pts_nil) (fun _ _ _ _ _ => pe_fld (pv 1) rfl)) pa_nil))), ?_⟩
    refine ⟨_, rfl, n, D, dx, _, _, rfl, hn, T.clD, T.nShares, nf_shares la, la, rfl, ⟨_, SqL.of S.lst⟩, fun M hM => ?_⟩
    have sM : Same H (upd H M (.lst [])) := same_upd hM
    refine lc_list (K := K) (a := la) (xs := as.map V.ref)
      (fun i H' => H' M = some (.lst (((l.map fun s => (s.r : Int)).take i).map V.int)) ∧ Same H H') ⟨upd_same, sM⟩ (fun i H' _ ⟨_, s2⟩ => SqL.of (s2 _ _ S.lst)) ?_ ?_
    · rintro i y H' hi ⟨hM', s2⟩
      obtain ⟨a, sh, ha, hs, rfl, A1⟩ := (S.same s2).get hi
      obtain ⟨da, ea⟩ := id A1
      refine ⟨rfl, tyes ?_⟩
      refine ⟨_, rfl, a, C, da, _, _, rfl, ea, T.clC, T.nOver, shf_over sh, _, hM', ?_, ?_, fun b o e => ?_⟩
      · refine small1000 ?_
        rw [List.length_map, List.length_take, List.length_map]
        have h5 := ok.2
        omega
      · have hg : (l.map fun s => (s.r : Int))[i]? = some (sh.r : Int) := by rw [List.getElem?_map, hs]; rfl
        rw [upd_same, map_take_snoc V.int hg]
      · rw [upd_ne (ne_of_none e hM)]
        exact s2 b o e
    · rintro H2 ⟨hM', s2⟩
      have el : (l.map fun s => (s.r : Int)).take (as.map V.ref).length = l.map fun s => (s.r : Int) := by
        refine List.take_of_length_le ?_
        rw [List.length_map, List.length_map, S.len]
        exact Nat.le_refl _
      rw [el] at hM'
      refine ⟨M, _, rfl, SqL.of hM', ?_⟩
      rw [Uwm.monkey_sum]
      exact k H2 s2
theorem scTakenOf : FnScope ["self", "heap", "sizes", "share", "size"] ["self", "heap"] (defScope sTakenOf) := ⟨rfl, rfl, rfl, by decide +kernel, rfl, by decide +kernel, by decide +kernel⟩
theorem bkTakenOf : BlkOk ["self", "heap", "sizes", "share", "size"] (defScope sTakenOf) (lcS [(".0", .local), ("share", .local), ("size", .local)]) [("share", 3), ("size", 4)] := blkOk_by (by decide +kernel)
theorem takes_len_le (l : Uw79.Night) (x : Nat) : (Uw79.takes l x).length ≤ l.length := by
  rw [Uwm.takes_szs, List.length_zipWith]
  exact Nat.min_le_left _ _
theorem ok_takenOf {f : Addr} {fd : FuncData} (F : Fun K "taken_of" "Night.taken_of" sTakenOf f fd) (T : Txt K mg C D) (GS : MethOk P w K mg base D "part_sizes" 2 ["self", "heap"] (spPartSizes C D)) :
    FnOk P w K mg base CX0 3 f fd ["self", "heap"] (spTakenOf C D) := by
  obtain ⟨fs, fds, GS, bS, mS⟩ := GS
  refine F.ok scTakenOf (fun vs H Q E h => ?_) (fun cdv A outer s H vs Q E hr h => ?_)
  · obtain ⟨n, la, l, x, rfl, _⟩ := h
    rfl
  · obtain ⟨n, la, l, x, rfl, N, ok, k⟩ := h
    obtain ⟨⟨dx, hn⟩, as, S⟩ := id N
    refine ⟨_, pss_cons (ps_set (i := 2) scTakenOf.nd rfl (Or.inl rfl) (pe_meth (pv 0) T.clD mS GS hr bS .nil pass0 (pa_cons (pv 1) pa_nil)))
      (pss_one (ps_ret (pe_lc (own := [("share", 3), ("size", 4)]) (g := gTup K 2 (gCons (gName 3) (gCons (gName 4) gNil))) (te := tOp (rI CMul fun i j => .int (i * j)) (tFld K (tVar 3) "taken") (tVar 4)) rfl scTakenOf.nd (pi_zip rfl T.zip (pa_cons (pe_fld (pv 0) rfl) (pa_cons (pv 2) pa_nil))) bkTakenOf
        (fun _ _ _ _ _ => pg_tup rfl (pgs_cons (pg_name (i := 3) scTakenOf.nd rfl (Or.inl rfl)) (pgs_cons (pg_name (i := 4) scTakenOf.nd rfl (Or.inl rfl)) pgs_nil))) (fun _ _ _ _ _ => pts_nil)
        (fun _ _ _ _ _ => pe_op op_mul (pe_fld (pv 3) rfl) (pv 4))))), ?_⟩
    refine ⟨_, rfl, n, dx, _, rfl, hn, nf_no la (by decide +kernel), _, rfl, n, la, l, x, rfl, N, ok, fun H2 q s2 hq hq1 => ?_⟩
    have S2 := S.same s2
    refine ⟨_, rfl, n, D, dx, _, _, rfl, s2 _ _ hn, T.clD, T.nShares, nf_shares la, _, rfl, la, q, _, _, rfl, SqL.of S2.lst, SqL.of hq1, fun R hR => ?_⟩
    have sR : Same H2 (upd H2 R (.lst [])) := same_upd hR
    refine lc_zip (K := K) (xs := as.map V.ref) (ys := (Uw79.ints (Uwm.szs l x)).map V.int)
      (fun i H' => H' R = some (.lst ((Uw79.ints ((Uw79.takes l x).take i)).map V.int)) ∧ Same H2 H') ⟨upd_same, sR⟩ (fun i H' ⟨_, s3⟩ => ⟨SqL.of (s3 _ _ S2.lst), SqL.of (s3 _ _ hq1)⟩) ?_ ?_
    · rintro i y z t H' hi hz ⟨hR', s3⟩ ht
      obtain ⟨a, sh, ha, hs, rfl, A1⟩ := (S2.same s3).get hi
      obtain ⟨v, hv, rfl⟩ := ints_get hz
      have gs : Uwm.GoodS sh := ok.1 sh (List.mem_of_getElem? hs)
      have st : Same H' (upd H' t (.tup [V.ref a, V.int (v : Int)])) := same_upd ht
      have A2 := A1.keep (H' := upd H' t (.tup [V.ref a, V.int (v : Int)])) fun o e => st _ _ e
      obtain ⟨da, ea⟩ := id A2
      refine ⟨t, _, rfl, SqT.of upd_same, rfl, _, _, rfl, _, _, rfl, rfl, rfl, tyes ?_⟩
      refine ⟨_, rfl, a, C, da, _, _, rfl, ea, T.clC, T.nTaken, shf_taken sh, _, rfl, _, _, rfl, rfl, .inl ⟨by omega, ?_⟩, _, st _ _ hR', ?_, ?_, fun b o e => ?_⟩
      · have := gs.2.1
        have := gs.2.2.2.2
        omega
      · refine small1000 ?_
        rw [ints_len, List.length_take]
        have h3 := takes_len_le l x
        have h5 := ok.2
        omega
      · have hg : (Uw79.takes l x)[i]? = some (sh.t * v) := by
          rw [Uwm.takes_szs]
          exact zip_get hs hv
        have e3 : ((sh.t : Int) * (v : Int)) = ((sh.t * v : Nat) : Int) := (Int.natCast_mul _ _).symm
        rw [upd_same]
        dsimp only
        rw [e3, ints_snoc hg]
      · rw [upd_ne (ne_of_none e hR)]
        exact st _ _ (s3 b o e)
    · rintro H3 ⟨hR', s3⟩
      have el : (Uw79.takes l x).take (min (as.map V.ref).length ((Uw79.ints (Uwm.szs l x)).map V.int).length) = Uw79.takes l x := by
        refine List.take_of_length_le ?_
        rw [ints_len, List.length_map, S.len, Uwm.takes_szs, List.length_zipWith]
        exact Nat.le_refl _
      rw [el] at hR'
      exact k H3 R (s2.trans s3) (s2.free hR) hR'
theorem scLeftOf : FnScope ["self", "heap"] ["self", "heap"] (defScope sLeftOf) := ⟨rfl, rfl, rfl, by decide +kernel, rfl, by decide +kernel, by decide +kernel⟩
theorem ok_leftOf {f : Addr} {fd : FuncData} (F : Fun K "left_of" "Night.left_of" sLeftOf f fd) (T : Txt K mg C D) (GM : MethOk P w K mg base D "monkey_gets" 1 ["self"] (spMonkey C D)) (GT : MethOk P w K mg base D "taken_of" 3 ["self", "heap"] (spTakenOf C D)) :
    FnOk P w K mg base CX0 4 f fd ["self", "heap"] (spLeftOf C D) := by
  obtain ⟨fm, fdm, GM, bM, mM⟩ := GM
  obtain ⟨ft, fdt, GT, bT, mT⟩ := GT
  refine F.ok scLeftOf (fun vs H Q E h => ?_) (fun cdv A outer s H vs Q E hr h => ?_)
  · obtain ⟨n, la, l, x, rfl, _⟩ := h
    rfl
  · obtain ⟨n, la, l, x, rfl, N, ok, hgo, k⟩ := h
    obtain ⟨⟨dx, hn⟩, as, S⟩ := id N
    have hr1 : Room 1 _ := hr.mono (by decide)
    refine ⟨_, pss_one (ps_ret (pe_op op_sub (pe_op op_sub (pv 1) (pe_meth0 (pv 0) T.clD mM GM hr1 bM .nil pass0)) (pe_callB (cr_sum rfl) (by rfl) T.sum boot_sum (pa_cons (pe_meth (pv 0) T.clD mT GT hr bT .nil pass0 (pa_cons (pv 1) pa_nil)) pa_nil)))), ?_⟩
    refine ⟨_, rfl, _, rfl, n, dx, _, rfl, hn, nf_no la (by decide +kernel), n, la, l, rfl, N, ok, fun H1 s1 => ?_⟩
    have N1 := N.same s1
    refine ⟨_, _, rfl, rfl, _, rfl, n, dx, _, rfl, s1 _ _ hn, nf_no la (by decide +kernel), _, rfl, n, la, l, x, rfl, N1, ok, fun H2 q s2 hq hq1 => ?_⟩
    refine ⟨q, _, rfl, SqL.of hq1, _, _, rfl, rfl, ?_⟩
    have eleft : (x : Int) - (Uw79.monkey l : Int) - (Uw79.ints (Uw79.takes l x)).sum = (Uwm.rst l x : Int) := by
      have h3 := Uwm.whole_heap l x ok.1 hgo
      rw [Uwm.sum_ints]
      omega
    dsimp only
    rw [eleft]
    exact k H2 (s1.trans s2)
theorem scGets : FnScope ["self", "heap"] ["self", "heap"] (defScope sGets) := ⟨rfl, rfl, rfl, by decide +kernel, rfl, by decide +kernel, by decide +kernel⟩
theorem ok_gets {f : Addr} {fd : FuncData} (F : Fun K "gets" "Night.gets" sGets f fd) (T : Txt K mg C D) (GS : MethOk P w K mg base D "part_sizes" 2 ["self", "heap"] (spPartSizes C D))
    (GM : MethOk P w K mg base D "monkey_gets" 1 ["self"] (spMonkey C D)) (GT : MethOk P w K mg base D "taken_of" 3 ["self", "heap"] (spTakenOf C D)) (GL : MethOk P w K mg base D "left_of" 4 ["self", "heap"] (spLeftOf C D)) :
    FnOk P w K mg base CX0 5 f fd ["self", "heap"] (spAsk1 C D fun l x => (Uw79.step l (.gets x)).2) := by
  obtain ⟨fs, fds, GS, bS, mS⟩ := GS
  obtain ⟨fm, fdm, GM, bM, mM⟩ := GM
  obtain ⟨ft, fdt, GT, bT, mT⟩ := GT
  obtain ⟨fl, fdl, GL, bL, mL⟩ := GL
  obtain ⟨t1, c1⟩ := T.cDoesNot
  refine F.ok scGets (fun vs H Q E h => ?_) (fun cdv A outer s H vs Q E hr h => ?_)
  · obtain ⟨n, la, l, x, rfl, _⟩ := h
    rfl
  · obtain ⟨n, la, l, x, rfl, hx, N, ok, k⟩ := h
    obtain ⟨⟨dx, hn⟩, as, S⟩ := id N
    have hr1 : Room 1 _ := hr.mono (by decide)
    have hr2 : Room 2 _ := hr.mono (by decide)
    have hr3 : Room 3 _ := hr.mono (by decide)
    refine ⟨_, pss_cons (ps_if (pt_cmpR op_lt (pe_callB call_len_seq (by rfl) T.len PySem.boot_len (pa_cons (pe_meth (pv 0) T.clD mS GS hr2 bS .nil pass0 (pa_cons (pv 1) pa_nil)) pa_nil)) (pe_callB call_len_seq (by rfl) T.len PySem.boot_len (pa_cons (pe_fld (pv 0) rfl) pa_nil)) (nomark _))
        (pss_one (ps_ret (pe_lst (pa_cons (pe_glob (v := .int (-3)) rfl c1 ⟨t1, rfl⟩) pa_nil)))) pss_nil)
      (pss_one (ps_ret (pe_op op_cat (pe_op op_cat (pe_lst (pa_cons (pe_meth0 (pv 0) T.clD mM GM hr1 bM .nil pass0) pa_nil)) (pe_meth (pv 0) T.clD mT GT hr3 bT .nil pass0 (pa_cons (pv 1) pa_nil)))
        (pe_lst (pa_cons (pe_meth (pv 0) T.clD mL GL hr bL .nil pass0 (pa_cons (pv 1) pa_nil)) pa_nil))))), ?_⟩
    refine ⟨_, rfl, n, dx, _, rfl, hn, nf_no la (by decide +kernel), _, rfl, n, la, l, x, rfl, N, ok, fun H1 q s1 hq hq1 => ?_⟩
    have S1 := S.same s1
    have N1 := N.same s1
    refine ⟨q, _, rfl, .inl (SqL.of hq1), _, rfl, n, D, dx, _, _, rfl, s1 _ _ hn, T.clD, T.nShares, nf_shares la, la, _, rfl, .inl (SqL.of S1.lst), _, _, rfl, rfl, _, rfl, ite2 (fun h1 => ?_) fun h1 => ?_⟩
    · have h2 := of_decide_eq_true h1
      rw [ints_len, List.length_map, S.len] at h2
      refine ⟨(by show 1 ≤ sizeLine; decide), fun p hp => ?_⟩
      refine k _ p (s1.trans (same_upd hp)) (s1.free hp) ?_
      have e : (Uw79.step l (.gets x)).2 = [-3] := by
        show (if Uw79.allGo l x = false then [-3] else _) = _
        rw [if_pos (Uwm.not_allGo l x (by omega))]
      rw [upd_same]
      show _ = some (HO.lst ((Uw79.step l (.gets x)).2.map V.int))
      rw [e]
      rfl
    · have h2 : ¬ ((Uwm.szs l x).length : Int) < (l.length : Int) := fun z => h1 (decide_eq_true (by rw [ints_len, List.length_map, S.len]; exact z))
      have hlz : (Uwm.szs l x).length = l.length := by
        have := Uwm.szs_le l x
        omega
      have hgo := Uwm.go_of_szs l x hlz
      have hlen : (Uw79.takes l x).length ≤ 10 := Nat.le_trans (takes_len_le l x) ok.2
      refine ⟨_, rfl, n, dx, _, rfl, s1 _ _ hn, nf_no la (by decide +kernel), n, la, l, rfl, N1, ok, fun H2 s2 => ⟨(by show 1 ≤ sizeLine; decide), fun p hp => ?_⟩⟩
      have sp := same_upd (o := .lst [V.int (Uw79.monkey l : Int)]) hp
      have N2 := (N1.same s2).same sp
      refine ⟨_, rfl, n, dx, _, rfl, sp _ _ (s2 _ _ (s1 _ _ hn)), nf_no la (by decide +kernel), _, rfl, n, la, l, x, rfl, N2, ok, fun H3 R s3 hR hR' => ?_⟩
      refine ⟨p, R, _, _, rfl, rfl, s3 _ _ upd_same, hR', ?_, fun p2 hp2 => ?_⟩
      · refine Nat.le_of_lt (small1000 ?_)
        rw [ints_len]
        show 1 + _ ≤ 1000
        omega
      · have sp2 := same_upd (o := .lst ([V.int (Uw79.monkey l : Int)] ++ (Uw79.ints (Uw79.takes l x)).map V.int)) hp2
        have N4 := (N2.same s3).same sp2
        refine ⟨_, rfl, n, dx, _, rfl, sp2 _ _ (s3 _ _ (sp _ _ (s2 _ _ (s1 _ _ hn)))), nf_no la (by decide +kernel), _, rfl, n, la, l, x, rfl, N4, ok, hgo, fun H4 s4 => ⟨(by show 1 ≤ sizeLine; decide), fun p3 hp3 => ?_⟩⟩
        have sp3 := same_upd (o := .lst [V.int (Uwm.rst l x : Int)]) hp3
        refine ⟨p2, p3, _, _, rfl, rfl, sp3 _ _ (s4 _ _ upd_same), upd_same, ?_, fun r hr' => ?_⟩
        · refine Nat.le_of_lt (small1000 ?_)
          rw [List.length_append, ints_len]
          show 1 + _ + 1 ≤ 1000
          omega
        · have sAll := (((((s1.trans s2).trans sp).trans s3).trans sp2).trans s4).trans sp3
          refine k _ r (sAll.trans (same_upd hr')) (sAll.free hr') ?_
          have e : (Uw79.step l (.gets x)).2 = (Uw79.monkey l : Int) :: Uw79.ints (Uw79.takes l x) ++ [(Uwm.rst l x : Int)] := by
            show (if Uw79.allGo l x = false then [-3] else _) = _
            rw [(Uwm.allGo_iff l x).mpr hgo, if_neg (by decide), Uwm.rest_eq l x hgo]
          rw [upd_same]
          show _ = some (HO.lst ((Uw79.step l (.gets x)).2.map V.int))
          rw [e, List.map_append]
          rfl
end
end Uwp

end

section
set_option Elab.async false
set_option linter.all false
set_option maxRecDepth 100000
set_option maxHeartbeats 4000000
namespace Uwp
open PySem PySem.Spec PyProof.Rows L2
open PySem.W (Codec)
theorem SharesAt.snoc {C : Addr} {H H' : Hp} {la a : Addr} {as : List Addr} {l : Uw79.Night} {s : Uw79.Share} (S : SharesAt C H la as l) (e : H' la = some (.lst ((as ++ [a]).map V.ref))) (hA : ShAt C H' a s)
    (k : ∀ b o, H b = some o → b ≠ la → H' b = some o) : SharesAt C H' la (as ++ [a]) (l ++ [s]) := by
  refine ⟨e, by rw [List.length_append, List.length_append, S.len]; rfl, fun j b t h1 h2 => ?_⟩
  by_cases hj : j < as.length
  · rw [List.getElem?_append_left hj] at h1
    rw [List.getElem?_append_left (by rw [← S.len]; exact hj)] at h2
    have q := S.at_ j b t h1 h2
    refine q.keep fun o eo => ?_
    obtain ⟨db, eb⟩ := q
    exact k b o eo (ne_of eb S.lst (by intro z; cases z))
  · rw [List.getElem?_append_right (by omega)] at h1
    rw [List.getElem?_append_right (by rw [← S.len]; omega)] at h2
    have e0 : j - as.length = 0 := by
      by_cases z : j - as.length = 0
      · exact z
      · rw [List.getElem?_eq_none (by simp only [List.length_cons, List.length_nil]; omega)] at h1
        cases h1
    have e1 : j - l.length = 0 := by rw [← S.len]; exact e0
    rw [e0] at h1
    rw [e1] at h2
    cases h1
    cases h2
    exact hA
section
variable {P : Program} {w : World} {K : PySem.W.Frag} {mg : Str → Option Value} {base : Heap} {C D : Addr}
/-! ### add_share -/
theorem scAddShare : FnScope ["self", "parts", "over", "taken"] ["self", "parts", "over", "taken"] (defScope sAddShare) := ⟨rfl, rfl, rfl, by decide +kernel, rfl, by decide +kernel, by decide +kernel⟩
theorem ok_addShare {f : Addr} {fd : FuncData} (F : Fun K "add_share" "Night.add_share" sAddShare f fd) (T : Txt K mg C D) (GS : DefOk P w K mg base "is_share" 2 ["parts", "over", "taken"] spIsShare)
    (GI : MakeOk P w K mg base C 1 ["self", "parts", "over", "taken"] (spShInit C)) : FnOk P w K mg base CX0 3 f fd ["self", "parts", "over", "taken"] (spN3 C D .share) := by
  obtain ⟨fs, fds, GS, bS, mS, kS⟩ := GS
  obtain ⟨fi, fdi, GI, bI, MI⟩ := GI
  obtain ⟨t1, c1⟩ := T.cWrong
  obtain ⟨t2, c2⟩ := T.cMost
  obtain ⟨t3, c3⟩ := T.cTooMany
  refine F.ok scAddShare (fun vs H Q E h => ?_) (fun cdv A outer s H vs Q E hr h => ?_)
  · obtain ⟨n, la, l, x, y, z, rfl, _⟩ := h
    rfl
  · obtain ⟨n, la, l, x, y, z, rfl, N, ok, k⟩ := h
    obtain ⟨⟨dx, hn⟩, as, S⟩ := id N
    refine ⟨_, pss_cons (ps_if (pt_not (pt_val (pe_call GS hr rfl mS kS bS .nil pass0 (pa_cons (pv 1) (pa_cons (pv 2) (pa_cons (pv 3) pa_nil)))))) (pss_one (ps_ret (pe_lst (pa_cons (pe_glob (v := .int (-1)) rfl c1 ⟨t1, rfl⟩) pa_nil)))) pss_nil)
      (pss_cons (ps_if (pt_cmpR op_eq (pe_callB call_len_seq (by rfl) T.len PySem.boot_len (pa_cons (pe_fld (pv 0) rfl) pa_nil)) (pe_glob (v := .int 10) rfl c2 ⟨t2, rfl⟩) (nomark _)) (pss_one (ps_ret (pe_lst (pa_cons (pe_glob (v := .int (-5)) rfl c3 ⟨t3, rfl⟩) pa_nil)))) pss_nil)
      (pss_cons (ps_expr (pe_bm PySem.F.plainAttrs_list PySem.F.slot_list_append PySem.F.type_list_append mt_append (pe_fld (pv 0) rfl) (pa_cons (pe_make MI GI hr rfl T.mgC bI .nil pass0 (pa_cons (pv 1) (pa_cons (pv 2) (pa_cons (pv 3) pa_nil)))) pa_nil)))
      (pss_one (ps_ret (pe_lst (pa_cons (pe_callB call_len_seq (by rfl) T.len PySem.boot_len (pa_cons (pe_fld (pv 0) rfl) pa_nil)) pa_nil)))))), ?_⟩
    refine ⟨_, rfl, _, rfl, _, rfl, x, y, z, rfl, _, rfl, ite2 (fun h1 => ?_) fun h1 => ?_⟩
    · -- no share
      have h2 : x < 2 ∨ 9 < x ∨ x ≤ y ∨ z < 1 ∨ x < z := by
        by_cases q : (x < 2 ∨ 9 < x ∨ x ≤ y ∨ z < 1 ∨ x < z)
        · exact q
        · rw [decide_eq_true q] at h1
          cases h1
      have es : Uw79.step l (.share x y z) = (l, [-1]) := by
        show (if x < 2 ∨ 9 < x ∨ x ≤ y ∨ z < 1 ∨ x < z then (l, [-1]) else _) = _
        rw [if_pos h2]
      rw [es] at k
      refine ⟨(by show 1 ≤ sizeLine; decide), fun p hp => ?_⟩
      exact Res.ask N k _ p (same_upd hp) hp upd_same
    · have h2 : ¬ (x < 2 ∨ 9 < x ∨ x ≤ y ∨ z < 1 ∨ x < z) := by
        intro q
        rw [decide_eq_false (fun z => z q)] at h1
        exact h1 rfl
      refine ⟨_, rfl, n, D, dx, _, _, rfl, hn, T.clD, T.nShares, nf_shares la, la, _, rfl, .inl (SqL.of S.lst), rfl, _, rfl, ite2 (fun h3 => ?_) fun h3 => ?_⟩
      · have h4 : l.length = 10 := by
          have := of_decide_eq_true h3
          simp only [V.int.injEq, List.length_map] at this
          have hl := S.len
          omega
        have es : Uw79.step l (.share x y z) = (l, [-5]) := by
          show (if x < 2 ∨ 9 < x ∨ x ≤ y ∨ z < 1 ∨ x < z then (l, [-1]) else if 10 ≤ l.length then (l, [-5]) else _) = _
          rw [if_neg h2, if_pos (by omega)]
        rw [es] at k
        refine ⟨(by show 1 ≤ sizeLine; decide), fun p hp => ?_⟩
        exact Res.ask N k _ p (same_upd hp) hp upd_same
      · have h4 : ¬ l.length = 10 := by
          intro q
          refine h3 (decide_eq_true ?_)
          rw [List.length_map, S.len, q]
          rfl
        have h5 := ok.2
        have es : Uw79.step l (.share x y z) = (l ++ [⟨x, y, z⟩], [((l ++ [(⟨x, y, z⟩ : Uw79.Share)]).length : Int)]) := by
          show (if x < 2 ∨ 9 < x ∨ x ≤ y ∨ z < 1 ∨ x < z then (l, [-1]) else if 10 ≤ l.length then (l, [-5]) else Uw79.many (l ++ [⟨x, y, z⟩])) = _
          rw [if_neg h2, if_neg (by omega)]
          rfl
        rw [es] at k
        refine ⟨_, rfl, n, D, dx, _, _, rfl, hn, T.clD, T.nShares, nf_shares la, .inl ⟨rfl, _, SqL.of S.lst⟩, _, rfl, _, rfl, _, rfl, fun a da na nda ne => ⟨a, da, ⟨x, y, z⟩, rfl, upd_same, fun H1 hA kp => ⟨rfl, la, as.map V.ref, _, rfl, rfl, ?_, ?_, ?_⟩⟩⟩
        · exact Same.made na nda kp _ _ S.lst
        · refine small1000 ?_
          rw [List.length_map, S.len]
          omega
        · have s1 : Same H H1 := Same.made na nda kp
          have nln : n ≠ la := ne_of hn S.lst (by intro q; cases q)
          have nal : a ≠ la := fun q => by
            rw [q, S.lst] at na
            cases na
          have S' : SharesAt C (upd H1 la (.lst (as.map V.ref ++ [V.ref a]))) la (as ++ [a]) (l ++ [⟨x, y, z⟩]) := by
            refine (S.same s1).snoc ?_ (hA.keep fun o e => ?_) fun b o e hb => ?_
            · rw [upd_same, List.map_append]
              rfl
            · rw [upd_ne nal]
              exact e
            · rw [upd_ne hb]
              exact e
          have hn' : upd H1 la (.lst (as.map V.ref ++ [V.ref a])) n = some (.ins D dx (nf la)) := by
            rw [upd_ne nln]
            exact s1 _ _ hn
          refine ⟨_, rfl, n, D, dx, _, _, rfl, hn', T.clD, T.nShares, nf_shares la, la, _, rfl, .inl (SqL.of S'.lst), (by show 1 ≤ sizeLine; decide), fun p hp => ?_⟩
          have hp1 : H1 p = none := by
            by_cases e : p = la
            · subst e
              rw [upd_same] at hp
              cases hp
            · rw [upd_ne e] at hp
              exact hp
          have hp0 := s1.free hp1
          have N' : NightAt C D (upd H1 la (.lst (as.map V.ref ++ [V.ref a]))) n la (l ++ [⟨x, y, z⟩]) := ⟨⟨dx, hn'⟩, as ++ [a], S'⟩
          refine k la _ p (N'.same (same_upd hp)) (.inl rfl) (fun b o e _ hb => ?_) ?_ hp0
          · rw [upd_ne (ne_of_none e hp0), upd_ne hb]
            exact s1 _ _ e
          · rw [upd_same, List.length_map, S'.len]
            rfl
/-! ### set_sailors -/
theorem scSetSailors : FnScope ["self", "sailors", "shares", "sailor"] ["self", "sailors"] (defScope sSetSailors) := ⟨rfl, rfl, rfl, by decide +kernel, rfl, by decide +kernel, by decide +kernel⟩
theorem bkSailors : BlkOk ["self", "sailors", "shares", "sailor"] (defScope sSetSailors) { kind := .function, names := [(".0", .local), ("sailor", .local), ("Share", .globalImplicit), ("sailors", .free)], isGenerator := false, isCoroutine := false } [("sailor", 3)] := blkOk_by (by decide +kernel)
theorem ok_setSailors {f : Addr} {fd : FuncData} (F : Fun K "set_sailors" "Night.set_sailors" sSetSailors f fd) (T : Txt K mg C D) (GP : DefOk P w K mg base "is_parts" 1 ["number"] spIsParts)
    (GI : MakeOk P w K mg base C 1 ["self", "parts", "over", "taken"] (spShInit C)) : FnOk P w K mg base CX0 3 f fd ["self", "sailors"] (spN1 C D .sailors) := by
  obtain ⟨fp, fdp, GP, bP, mP, kP⟩ := GP
  obtain ⟨fi, fdi, GI, bI, MI⟩ := GI
  obtain ⟨t1, c1⟩ := T.cWrong
  refine F.ok scSetSailors (fun vs H Q E h => ?_) (fun cdv A outer s H vs Q E hr h => ?_)
  · obtain ⟨n, la, l, x, rfl, _⟩ := h
    rfl
  · obtain ⟨n, la, l, m, rfl, hm, N, ok, k⟩ := h
    obtain ⟨⟨dx, hn⟩, as, S⟩ := id N
    have hr1 : Room 1 _ := hr.mono (by decide)
    refine ⟨_, pss_cons (ps_if (pt_not (pt_val (pe_call GP hr1 rfl mP kP bP .nil pass0 (pa_cons (pv 1) pa_nil)))) (pss_one (ps_ret (pe_lst (pa_cons (pe_glob (v := .int (-1)) rfl c1 ⟨t1, rfl⟩) pa_nil)))) pss_nil)
      (pss_cons (ps_setLc (i := 2) (own := [("sailor", 3)]) (te := tMake C (spShInit C) [] E0 (tCons (tVar 1) (tCons (tC (.int 1)) (tCons (tC (.int 1)) tNil)))) rfl scSetSailors.nd rfl rfl (sw_true rfl rfl rfl (by decide +kernel)) (pi_range1 rfl T.range (pa_cons (pv 1) pa_nil)) bkSailors
        (fun _ _ _ _ _ => pg_name (i := 3) scSetSailors.nd rfl (Or.inl rfl)) (fun _ _ _ _ _ => pts_nil)
        (fun _ _ _ _ _ => pe_make MI GI hr rfl T.mgC bI .nil pass0 (pa_cons (pv 1) (pa_cons pe_int (pa_cons pe_int pa_nil)))))
      (pss_cons (ps_expr (pe_bm PySem.F.plainAttrs_list PySem.F.slot_list_append PySem.F.type_list_append mt_append (pv 2) (pa_cons (pe_make MI GI hr rfl T.mgC bI .nil pass0 (pa_cons (pv 1) (pa_cons pe_int (pa_cons (pv 1) pa_nil)))) pa_nil)))
      (pss_cons (ps_fld (pv 0) (pv 2) rfl)
      (pss_one (ps_ret (pe_lst (pa_cons (pe_callB call_len_seq (by rfl) T.len PySem.boot_len (pa_cons (pv 2) pa_nil)) pa_nil))))))), ?_⟩
    refine ⟨_, rfl, m, rfl, _, rfl, ite2 (fun h1 => ?_) fun h1 => ?_⟩
    · have h2 : m < 2 ∨ 9 < m := by
        by_cases q : 2 ≤ m ∧ m ≤ 9
        · rw [decide_eq_true q] at h1
          cases h1
        · omega
      have es : Uw79.step l (.sailors m) = (l, [-1]) := by
        show (if m < 2 ∨ 9 < m then (l, [-1]) else _) = _
        rw [if_pos h2]
      rw [es] at k
      refine ⟨(by show 1 ≤ sizeLine; decide), fun p hp => ?_⟩
      exact Res.ask N k _ p (same_upd hp) hp upd_same
    · have h2 : 2 ≤ m ∧ m ≤ 9 := by
        by_cases q : 2 ≤ m ∧ m ≤ 9
        · exact q
        · rw [decide_eq_false q] at h1
          exact absurd rfl h1
      have es : Uw79.step l (.sailors m) = (Uw79.sailors m, [((Uw79.sailors m).length : Int)]) := by
        show (if m < 2 ∨ 9 < m then (l, [-1]) else Uw79.many (Uw79.sailors m)) = _
        rw [if_neg (by omega)]
        rfl
      rw [es] at k
      refine ⟨_, rfl, (m : Int), rfl, by omega, by omega, fun R hR => ?_⟩
      have sR : Same H (upd H R (.lst [])) := same_upd hR
      refine lc_range (lo := 0) (n := (m : Int).toNat) (fun i H' => ∃ bs, SharesAt C H' R bs (List.replicate i ⟨m, 1, 1⟩) ∧ Same H H')
        ⟨[], ⟨upd_same, rfl, fun j a t h _ => by simp at h⟩, sR⟩ ?_ ?_
      · rintro i H1 hi ⟨bs, B, s1⟩
        refine ⟨rfl, tyes ?_⟩
        refine ⟨_, rfl, fun a da na nda ne => ⟨a, da, ⟨m, 1, 1⟩, rfl, upd_same, fun H2 hA kp => ⟨rfl, _, Same.made na nda kp _ _ B.lst, ?_, bs ++ [a], ?_, ?_⟩⟩⟩
        · refine small1000 ?_
          rw [List.length_map, B.len, List.length_replicate]
          omega
        · have s2 : Same H1 H2 := Same.made na nda kp
          have nal : a ≠ R := fun q => by
            rw [q, B.lst] at na
            cases na
          have er : List.replicate (i + 1) (⟨m, 1, 1⟩ : Uw79.Share) = List.replicate i ⟨m, 1, 1⟩ ++ [⟨m, 1, 1⟩] := List.replicate_succ'
          rw [er]
          refine (B.same s2).snoc ?_ (hA.keep fun o e => ?_) fun b o e hb => ?_
          · rw [upd_same, List.map_append]
            rfl
          · rw [upd_ne nal]
            exact e
          · rw [upd_ne hb]
            exact e
        · intro b o e
          rw [upd_ne (ne_of_none e hR)]
          exact Same.made na nda kp _ _ (s1 b o e)
      · rintro H1 ⟨bs, B, s1⟩
        rw [Int.toNat_natCast] at B
        refine ⟨_, rfl, .inl ⟨rfl, _, SqL.of B.lst⟩, _, rfl, _, rfl, fun a da na nda ne => ⟨a, da, ⟨m, 1, m⟩, rfl, upd_same, fun H2 hA kp => ⟨rfl, R, _, _, rfl, rfl, Same.made na nda kp _ _ B.lst, ?_, ?_⟩⟩⟩
        · refine small1000 ?_
          rw [List.length_map, B.len, List.length_replicate]
          omega
        · have s2 : Same H1 H2 := Same.made na nda kp
          have nal : a ≠ R := fun q => by
            rw [q, B.lst] at na
            cases na
          have B' : SharesAt C (upd H2 R (.lst (bs.map V.ref ++ [V.ref a]))) R (bs ++ [a]) (Uw79.sailors m) := by
            refine (B.same s2).snoc ?_ (hA.keep fun o e => ?_) fun b o e hb => ?_
            · rw [upd_same, List.map_append]
              rfl
            · rw [upd_ne nal]
              exact e
            · rw [upd_ne hb]
              exact e
          have nRn : R ≠ n := fun q => by
            rw [q, hn] at hR
            cases hR
          have hn' : upd H2 R (.lst (bs.map V.ref ++ [V.ref a])) n = some (.ins D dx (nf la)) := by
            rw [upd_ne nRn.symm]
            exact s2 _ _ (s1 _ _ hn)
          refine ⟨_, rfl, _, rfl, n, D, dx, _, rfl, hn', T.clD, T.nShares, few1 _ _, ?_⟩
          generalize hH3 : upd H2 R (.lst (bs.map V.ref ++ [V.ref a])) = H3 at B' hn' ⊢
          have e4 : putF "shares" (V.ref R) (nf la) = nf R := nf_put la R
          rw [e4]
          have N' : NightAt C D (upd H3 n (.ins D dx (nf R))) n R (Uw79.sailors m) := by
            refine ⟨⟨dx, upd_same⟩, bs ++ [a], ?_, B'.len, fun j b t q1 q2 => ?_⟩
            · rw [upd_ne nRn]
              exact B'.lst
            · have q := B'.at_ j b t q1 q2
              refine q.keep fun o e => ?_
              obtain ⟨db, eb⟩ := q
              have nbn : b ≠ n := ne_of eb hn' (by
                intro z
                injection z with z1 z2 z3
                have := congrArg (fun fs => List.lookup ("parts" : Str) fs) z3
                rw [shf_parts, nf_no la (by decide +kernel)] at this
                cases this)
              rw [upd_ne nbn]
              exact e
          have hl' : upd H3 n (.ins D dx (nf R)) R = some (.lst ((bs ++ [a]).map V.ref)) := by
            rw [upd_ne nRn]
            exact B'.lst
          refine ⟨_, rfl, R, _, rfl, .inl (SqL.of hl'), (by show 1 ≤ sizeLine; decide), fun p hp => ?_⟩
          have s3 : ∀ b o, H b = some o → b ≠ n → upd H3 n (.ins D dx (nf R)) b = some o := fun b o e hb => by
            rw [upd_ne hb, ← hH3, upd_ne (ne_of_none e hR)]
            exact s2 _ _ (s1 _ _ e)
          have hp0 : H p = none := by
            cases e : H p with
            | none => rfl
            | some o =>
              by_cases hpn : p = n
              · subst hpn
                rw [upd_same] at hp
                cases hp
              · rw [s3 p o e hpn] at hp
                cases hp
          refine k R _ p (N'.same (same_upd hp)) (.inr hR) (fun b o e hb _ => ?_) ?_ hp0
          · rw [upd_ne (ne_of_none e hp0)]
            exact s3 b o e hb
          · rw [upd_same, List.length_map, B'.len]
            rfl
end
end Uwp

end

section
set_option Elab.async false
set_option linter.all false
set_option maxRecDepth 100000
set_option maxHeartbeats 4000000
namespace Uwp
open PySem PySem.Spec PyProof.Rows L2
open PySem.W (Codec)
/-! ### a Row -/
def rowf (f st : Nat) : List (Str × V) := putF "step" (.int (st : Int)) (putF "first" (.int (f : Int)) [])
theorem rowf_step (f st : Nat) : (rowf f st).lookup ("step" : Str) = some (.int (st : Int)) := by
  unfold rowf
  rw [lookup_putF, if_pos rfl]
theorem rowf_first (f st : Nat) : (rowf f st).lookup ("first" : Str) = some (.int (f : Int)) := by
  unfold rowf
  rw [lookup_putF, if_neg (by decide +kernel), lookup_putF, if_pos rfl]
theorem rowf_no (f st : Nat) {m : Str} (h1 : ¬ m = "step") (h2 : ¬ m = "first") : (rowf f st).lookup m = none := by
  unfold rowf
  rw [lookup_putF, if_neg h1, lookup_putF, if_neg h2]
  all_goals rfl
def RowAt (B : Addr) (H : Hp) (a : Addr) (f st : Nat) : Prop := ∃ dx, H a = some (.ins B dx (rowf f st))
theorem RowAt.same {B : Addr} {H H' : Hp} {a : Addr} {f st : Nat} (h : RowAt B H a f st) (k : Same H H') : RowAt B H' a f st := by
  obtain ⟨dx, e⟩ := h
  exact ⟨dx, k _ _ e⟩
theorem ShAt.same {C : Addr} {H H' : Hp} {a : Addr} {s : Uw79.Share} (h : ShAt C H a s) (k : Same H H') : ShAt C H' a s := h.keep fun o e => k _ _ e
structure TxtB (K : PySem.W.Frag) (mg : Str → Option Value) (B : Addr) : Prop where
  cl : Cls K B
  nFirst : NoAttr K B "first"
  nStep : NoAttr K B "step"
  mgB : mg "Row" = some (.ref B)
  set : mg "set" = none
  sorted : mg "sorted" = none
  any : mg "any" = none
  reversed : mg "reversed" = none
  cLeastDiv : ∃ t, mg "LEAST_DIVISOR" = some (.int 1 t)
  cMostDiv : ∃ t, mg "MOST_DIVISOR" = some (.int 20 t)
  cNever : ∃ t, mg "NEVER_SO_MUCH" = some (.int (-4) t)
  cNoHeap : ∃ t, mg "NO_HEAP" = some (.int (-6) t)
  cAllTaken : ∃ t, mg "ALL_TAKEN" = some (.int (-7) t)
/-! promises -/
def spRowInit (B : Addr) : Sp := fun vs H Q _ => ∃ (a dx : Addr) (f st : Nat), vs = [.ref a, .int (f : Int), .int (st : Int)] ∧ H a = some (.ins B dx []) ∧ ∀ H' : Hp, RowAt B H' a f st → (∀ b o, H b = some o → b ≠ a → H' b = some o) → Q .non H'
def spNumber (B : Addr) : Sp := fun vs H Q _ => ∃ (a : Addr) (f st k : Nat), vs = [.ref a, .int (k : Int)] ∧ RowAt B H a f st ∧ st < 2 ^ 64 ∧ Q (.int ((f + k * st : Nat) : Int)) H
def spRoundedUp : Sp := fun vs H Q _ => ∃ n d : Nat, vs = [.int (n : Int), .int (d : Int)] ∧ 0 < d ∧ d < 2 ^ 64 ∧ Q (.int (((n + d - 1) / d : Nat) : Int)) H
def placeV (f st b : Nat) : V := if b ≤ f then .int 0 else if st = 0 then .non else .int (((b - f + st - 1) / st : Nat) : Int)
def spPlaceFrom (B : Addr) : Sp := fun vs H Q _ => ∃ (a : Addr) (f st b : Nat), vs = [.ref a, .int (b : Int)] ∧ RowAt B H a f st ∧ st < 2 ^ 64 ∧ Q (placeV f st b) H
def spCountTo (B : Addr) : Sp := fun vs H Q _ => ∃ (a : Addr) (f st b : Nat), vs = [.ref a, .int (b : Int)] ∧ RowAt B H a f st ∧ 0 < st ∧ st < 2 ^ 64 ∧ Q (.int ((if b < f then 0 else (b - f) / st + 1 : Nat) : Int)) H
def spLeaves (B : Addr) : Sp := fun vs H Q _ => ∃ (a : Addr) (f st m : Nat), vs = [.ref a, .int (m : Int)] ∧ RowAt B H a f st ∧ st < 2 ^ 64 ∧ 0 < m ∧ m ≤ 20 ∧
  ∀ (ks : List Nat) (H' : Hp) (p : Addr), ks.Pairwise (· < ·) → (∀ v, v ∈ ks ↔ ∃ k, k < m ∧ (f + k * st) % m = v) → ks.length ≤ m → Same H H' → H p = none → H' p = some (.lst ((Uw79.ints ks).map V.int)) → Q (.ref p) H'
def optV : Option Nat → V
  | none => .non
  | some k => .int (k : Int)
def spPlaceGoes (B C : Addr) : Sp := fun vs H Q _ => ∃ (a b : Addr) (f st : Nat) (s : Uw79.Share), vs = [.ref a, .ref b] ∧ RowAt B H a f st ∧ ShAt C H b s ∧ Uwm.GoodS s ∧ st < 2 ^ 64 ∧ Q (optV (Uwm.placeOf f st s)) H
def spBetween (B C : Addr) : Sp := fun vs H Q _ => ∃ (a b : Addr) (f st : Nat) (s : Uw79.Share), vs = [.ref a, .ref b] ∧ RowAt B H a f st ∧ ShAt C H b s ∧ Uwm.GoodS s ∧ Q (.int ((s.p / Nat.gcd st s.p : Nat) : Int)) H
def NewRow (B : Addr) (H : Hp) (f st : Nat) (Q : VK) : Prop := ∀ (H' : Hp) (q : Addr), RowAt B H' q f st → Same H H' → H q = none → Q (.ref q) H'
def spThinned (B : Addr) : Sp := fun vs H Q _ => ∃ (a : Addr) (f st k j : Nat), vs = [.ref a, .int (k : Int), .int (j : Int)] ∧ RowAt B H a f st ∧ st < 2 ^ 64 ∧ NewRow B H (f + k * st) (j * st) Q
def spRests (B C : Addr) : Sp := fun vs H Q _ => ∃ (a b : Addr) (f st : Nat) (s : Uw79.Share), vs = [.ref a, .ref b] ∧ RowAt B H a f st ∧ ShAt C H b s ∧ Uwm.GoodS s ∧ s.r ≤ f ∧ NewRow B H ((s.p - s.t) * ((f - s.r) / s.p)) ((s.p - s.t) * (st / s.p)) Q
def spRowThrough (B : Addr) : Sp := fun vs H Q _ => ∃ f g : Nat, vs = [.int (f : Int), .int (g : Int)] ∧ f ≤ g ∧ NewRow B H f (g - f) Q
def spTakesAll (C : Addr) : Sp := fun vs H Q _ => ∃ (a : Addr) (s : Uw79.Share), vs = [.ref a] ∧ ShAt C H a s ∧ Q (.bl (decide (s.t = s.p))) H
def aheadV (s : Uw79.Share) (z : Nat) : Option Nat := if z % (s.p - s.t) = 0 then some (s.p * (z / (s.p - s.t)) + s.r) else none
def spHeapAhead (C : Addr) : Sp := fun vs H Q _ => ∃ (a : Addr) (s : Uw79.Share) (z : Nat), vs = [.ref a, .int (z : Int)] ∧ ShAt C H a s ∧ Uwm.GoodS s ∧ s.t < s.p ∧ Q (optV (aheadV s z)) H
section
variable {P : Program} {w : World} {K : PySem.W.Frag} {mg : Str → Option Value} {base : Heap} {B C D : Addr}
/-! ### Share: takes_all, heap_ahead -/
theorem scTakesAll : FnScope ["self"] ["self"] (defScope sTakesAll) := ⟨rfl, rfl, rfl, by decide +kernel, rfl, by decide +kernel, by decide +kernel⟩
theorem ok_takesAll {f : Addr} {fd : FuncData} (F : Fun K "takes_all" "Share.takes_all" sTakesAll f fd) (T : Txt K mg C D) : FnOk P w K mg base CX0 1 f fd ["self"] (spTakesAll C) := by
  refine F.ok scTakesAll (fun vs H Q E h => ?_) (fun cdv A outer s H vs Q E hr h => ?_)
  · obtain ⟨a, s, rfl, _⟩ := h
    rfl
  · obtain ⟨a, s, rfl, ⟨dx, h1⟩, k⟩ := h
    refine ⟨_, pss_one (ps_ret (pe_cmpR op_eq (pe_fld (pv 0) rfl) (pe_fld (pv 0) rfl) (nomark _))), ?_⟩
    refine ⟨_, rfl, a, C, dx, _, _, rfl, h1, T.clC, T.nTaken, shf_taken s, _, rfl, a, C, dx, _, _, rfl, h1, T.clC, T.nParts, shf_parts s, rfl, ?_⟩
    have e : decide (V.int (s.t : Int) = V.int (s.p : Int)) = decide (s.t = s.p) := by
      rw [Bool.eq_iff_iff]
      simp only [decide_eq_true_eq, V.int.injEq]
      omega
    show Q (V.bl (decide (V.int (s.t : Int) = V.int (s.p : Int)))) H
    rw [e]
    exact k
theorem scHeapAhead : FnScope ["self", "rest", "parts_left"] ["self", "rest"] (defScope sHeapAhead) := ⟨rfl, rfl, rfl, by decide +kernel, rfl, by decide +kernel, by decide +kernel⟩
theorem ok_heapAhead {f : Addr} {fd : FuncData} (F : Fun K "heap_ahead" "Share.heap_ahead" sHeapAhead f fd) (T : Txt K mg C D) : FnOk P w K mg base CX0 1 f fd ["self", "rest"] (spHeapAhead C) := by
  refine F.ok scHeapAhead (fun vs H Q E h => ?_) (fun cdv A outer s H vs Q E hr h => ?_)
  · obtain ⟨a, s, z, rfl, _⟩ := h
    rfl
  · obtain ⟨a, s, z, rfl, ⟨dx, h1⟩, ⟨g1, g2, g3, g4, g5⟩, hlt, k⟩ := h
    refine ⟨_, pss_cons (ps_set (i := 2) scHeapAhead.nd rfl (Or.inl rfl) (pe_op op_sub (pe_fld (pv 0) rfl) (pe_fld (pv 0) rfl)))
      (pss_cons (ps_if (pt_cmpR op_ne (pe_op op_mod (pv 1) (pv 2)) pe_int (nomark _)) (pss_one (ps_ret pe_non)) pss_nil)
      (pss_one (ps_ret (pe_op op_add (pe_op op_mul (pe_op op_fdiv (pv 1) (pv 2)) (pe_fld (pv 0) rfl)) (pe_fld (pv 0) rfl))))), ?_⟩
    refine ⟨_, rfl, a, C, dx, _, _, rfl, h1, T.clC, T.nParts, shf_parts s, _, rfl, a, C, dx, _, _, rfl, h1, T.clC, T.nTaken, shf_taken s, _, _, rfl, rfl, ?_⟩
    have e1 : ((s.p : Int) - (s.t : Int)) = ((s.p - s.t : Nat) : Int) := by omega
    dsimp only
    rw [e1]
    have e2 : ((z : Int) % ((s.p - s.t : Nat) : Int)) = ((z % (s.p - s.t) : Nat) : Int) := (Int.natCast_emod _ _).symm
    refine ⟨_, rfl, _, rfl, _, _, rfl, rfl, (by show (0 : Int) < ((s.p - s.t : Nat) : Int); omega), rfl, _, rfl, ite2 (fun h2 => ?_) fun h2 => ?_⟩
    · have hne : ¬ z % (s.p - s.t) = 0 := fun q => of_decide_eq_false ((Bool.not_eq_true' _).mp h2) (congrArg V.int (e2.trans (by rw [q]; rfl)))
      have e : aheadV s z = none := if_neg hne
      rw [e] at k
      exact k
    · have heq : z % (s.p - s.t) = 0 := by
        by_cases q : z % (s.p - s.t) = 0
        · exact q
        · refine absurd ((Bool.not_eq_true' _).mpr (decide_eq_false fun c => q ?_)) h2
          have c2 := e2.symm.trans (V.int.inj c)
          omega
      refine ⟨_, rfl, _, rfl, _, _, rfl, rfl, ⟨(by show (0 : Int) < ((s.p - s.t : Nat) : Int); omega), (by show ((s.p - s.t : Nat) : Int) < _; omega)⟩, _, rfl, a, C, dx, _, _, rfl, h1, T.clC, T.nParts, shf_parts s, _, _, rfl, rfl, .inr ⟨by omega, by omega⟩, _, rfl, a, C, dx, _, _, rfl, h1, T.clC, T.nOver, shf_over s, _, _, rfl, rfl, ?_⟩
      have e : aheadV s z = some (s.p * (z / (s.p - s.t)) + s.r) := if_pos heq
      rw [e] at k
      have e3 : ((z : Int) / ((s.p - s.t : Nat) : Int)) * (s.p : Int) + (s.r : Int) = ((s.p * (z / (s.p - s.t)) + s.r : Nat) : Int) := by
        rw [Nat.mul_comm, Int.natCast_add, Int.natCast_mul, Int.natCast_ediv]
      dsimp only
      rw [e3]
      exact k
/-! ### Row -/
theorem scRowInit : FnScope ["self", "first", "step"] ["self", "first", "step"] (defScope sRowInit) := ⟨rfl, rfl, rfl, by decide +kernel, rfl, by decide +kernel, by decide +kernel⟩
theorem ok_rowInit {f : Addr} {fd : FuncData} (F : Fun K "__init__" "Row.__init__" sRowInit f fd) (T : TxtB K mg B) : FnOk P w K mg base CX0 1 f fd ["self", "first", "step"] (spRowInit B) := by
  refine F.ok scRowInit (fun vs H Q E h => ?_) (fun cdv A outer s H vs Q E hr h => ?_)
  · obtain ⟨a, dx, x, y, rfl, _⟩ := h
    rfl
  · obtain ⟨a, dx, x, y, rfl, hp, k⟩ := h
    refine ⟨_, pss_cons (ps_fld (pv 0) (pv 1) rfl) (pss_one (ps_fld (pv 0) (pv 2) rfl)), ?_⟩
    refine ⟨_, rfl, _, rfl, a, B, dx, [], rfl, hp, T.cl, T.nFirst, (by show 0 < 1000; decide), _, rfl, _, rfl, a, B, dx, _, rfl, upd_same, T.cl, T.nStep, few1 _ _, ?_⟩
    exact k _ ⟨dx, upd_same⟩ fun b o e hb => by rw [upd_ne hb, upd_ne hb]; exact e
theorem scNumber : FnScope ["self", "place"] ["self", "place"] (defScope sNumber) := ⟨rfl, rfl, rfl, by decide +kernel, rfl, by decide +kernel, by decide +kernel⟩
theorem ok_number {f : Addr} {fd : FuncData} (F : Fun K "number" "Row.number" sNumber f fd) (T : TxtB K mg B) : FnOk P w K mg base CX0 1 f fd ["self", "place"] (spNumber B) := by
  refine F.ok scNumber (fun vs H Q E h => ?_) (fun cdv A outer s H vs Q E hr h => ?_)
  · obtain ⟨a, x, st, y, rfl, _⟩ := h
    rfl
  · obtain ⟨a, x, st, y, rfl, ⟨dx, h1⟩, hs, k⟩ := h
    refine ⟨_, pss_one (ps_ret (pe_op op_add (pe_fld (pv 0) rfl) (pe_op op_mul (pv 1) (pe_fld (pv 0) rfl)))), ?_⟩
    refine ⟨_, rfl, a, B, dx, _, _, rfl, h1, T.cl, T.nFirst, rowf_first x st, _, rfl, _, rfl, a, B, dx, _, _, rfl, h1, T.cl, T.nStep, rowf_step x st, _, _, rfl, rfl, .inr ⟨by omega, by omega⟩, _, _, rfl, rfl, ?_⟩
    have e : ((x : Int) + (y : Int) * (st : Int)) = ((x + y * st : Nat) : Int) := by rw [Int.natCast_add, Int.natCast_mul]
    dsimp only
    rw [e]
    exact k
theorem scRoundedUp : FnScope ["number", "divisor"] ["number", "divisor"] (defScope sRoundedUp) := ⟨rfl, rfl, rfl, by decide +kernel, rfl, by decide +kernel, by decide +kernel⟩
theorem ok_roundedUp {f : Addr} {fd : FuncData} (F : Fun K "rounded_up" "rounded_up" sRoundedUp f fd) : FnOk P w K mg base CX0 1 f fd ["number", "divisor"] spRoundedUp := by
  refine F.ok scRoundedUp (fun vs H Q E h => ?_) (fun cdv A outer s H vs Q E hr h => ?_)
  · obtain ⟨x, y, rfl, _⟩ := h
    rfl
  · obtain ⟨x, y, rfl, h1, h2, k⟩ := h
    refine ⟨_, pss_one (ps_ret (pe_op op_fdivB (pe_op op_sub (pe_op op_add (pv 0) (pv 1)) pe_int) (pv 1))), ?_⟩
    refine ⟨_, rfl, _, rfl, _, _, rfl, rfl, _, _, rfl, rfl, _, rfl, _, _, rfl, rfl, ⟨by show (0 : Int) < (y : Int); omega, by show (y : Int) < 2 ^ 64; omega⟩, ?_⟩
    have e : (((x : Int) + (y : Int) - 1) / (y : Int)) = (((x + y - 1) / y : Nat) : Int) := by
      have e1 : ((x : Int) + (y : Int) - 1) = ((x + y - 1 : Nat) : Int) := by omega
      rw [e1]
      exact (Int.natCast_ediv _ _).symm
    dsimp only
    rw [e]
    exact k
theorem scPlaceFrom : FnScope ["self", "bound"] ["self", "bound"] (defScope sPlaceFrom) := ⟨rfl, rfl, rfl, by decide +kernel, rfl, by decide +kernel, by decide +kernel⟩
theorem ok_placeFrom {f : Addr} {fd : FuncData} (F : Fun K "place_from" "Row.place_from" sPlaceFrom f fd) (T : TxtB K mg B) (GR : DefOk P w K mg base "rounded_up" 1 ["number", "divisor"] spRoundedUp) : FnOk P w K mg base CX0 2 f fd ["self", "bound"] (spPlaceFrom B) := by
  obtain ⟨fr, fdr, GR, bR, mR, kR⟩ := GR
  refine F.ok scPlaceFrom (fun vs H Q E h => ?_) (fun cdv A outer s H vs Q E hr h => ?_)
  · obtain ⟨a, x, st, y, rfl, _⟩ := h
    rfl
  · obtain ⟨a, x, st, y, rfl, ⟨dx, h1⟩, hs, k⟩ := h
    refine ⟨_, pss_cons (ps_if (pt_cmpR op_ge (pe_fld (pv 0) rfl) (pv 1) (nomark _)) (pss_one (ps_ret pe_int)) pss_nil)
      (pss_cons (ps_if (pt_cmpR op_eq (pe_fld (pv 0) rfl) pe_int (nomark _)) (pss_one (ps_ret pe_non)) pss_nil)
      (pss_one (ps_ret (pe_call GR hr rfl mR kR bR .nil pass0 (pa_cons (pe_op op_sub (pv 1) (pe_fld (pv 0) rfl)) (pa_cons (pe_fld (pv 0) rfl) pa_nil)))))), ?_⟩
    refine ⟨_, rfl, a, B, dx, _, _, rfl, h1, T.cl, T.nFirst, rowf_first x st, _, rfl, _, _, rfl, rfl, _, rfl, ite2 (fun h2 => ?_) fun h2 => ?_⟩
    · have h3 : (y : Int) ≤ (x : Int) := of_decide_eq_true h2
      have e : placeV x st y = .int 0 := if_pos (by omega)
      rw [e] at k
      exact k
    · have h3 : ¬ y ≤ x := fun q => h2 (decide_eq_true (by show (y : Int) ≤ (x : Int); omega))
      refine ⟨_, rfl, a, B, dx, _, _, rfl, h1, T.cl, T.nStep, rowf_step x st, rfl, _, rfl, ite2 (fun h4 => ?_) fun h4 => ?_⟩
      · have h5 : st = 0 := by
          have := of_decide_eq_true h4
          simp only [V.int.injEq] at this
          omega
        have e : placeV x st y = .non := by
          unfold placeV
          rw [if_neg h3, if_pos h5]
        rw [e] at k
        exact k
      · have h5 : ¬ st = 0 := fun q => h4 (decide_eq_true (by rw [q]; rfl))
        refine ⟨_, rfl, _, rfl, a, B, dx, _, _, rfl, h1, T.cl, T.nFirst, rowf_first x st, _, _, rfl, rfl, _, rfl, a, B, dx, _, _, rfl, h1, T.cl, T.nStep, rowf_step x st, ?_⟩
        have e : placeV x st y = .int (((y - x + st - 1) / st : Nat) : Int) := by
          unfold placeV
          rw [if_neg h3, if_neg h5]
        rw [e] at k
        have e1 : ((y : Int) - (x : Int)) = ((y - x : Nat) : Int) := by omega
        dsimp only
        rw [e1]
        exact ⟨y - x, st, rfl, by omega, hs, k⟩
theorem scCountTo : FnScope ["self", "bound"] ["self", "bound"] (defScope sCountTo) := ⟨rfl, rfl, rfl, by decide +kernel, rfl, by decide +kernel, by decide +kernel⟩
theorem ok_countTo {f : Addr} {fd : FuncData} (F : Fun K "count_to" "Row.count_to" sCountTo f fd) (T : TxtB K mg B) : FnOk P w K mg base CX0 1 f fd ["self", "bound"] (spCountTo B) := by
  refine F.ok scCountTo (fun vs H Q E h => ?_) (fun cdv A outer s H vs Q E hr h => ?_)
  · obtain ⟨a, x, st, y, rfl, _⟩ := h
    rfl
  · obtain ⟨a, x, st, y, rfl, ⟨dx, h1⟩, hs0, hs, k⟩ := h
    refine ⟨_, pss_cons (ps_if (pt_cmpR op_lt (pv 1) (pe_fld (pv 0) rfl) (nomark _)) (pss_one (ps_ret pe_int)) pss_nil)
      (pss_one (ps_ret (pe_op op_add (pe_op op_fdivB (pe_op op_sub (pv 1) (pe_fld (pv 0) rfl)) (pe_fld (pv 0) rfl)) pe_int))), ?_⟩
    refine ⟨_, rfl, _, rfl, a, B, dx, _, _, rfl, h1, T.cl, T.nFirst, rowf_first x st, _, _, rfl, rfl, _, rfl, ite2 (fun h2 => ?_) fun h2 => ?_⟩
    · have h3 : (y : Int) < (x : Int) := of_decide_eq_true h2
      rw [if_pos (by omega)] at k
      exact k
    · have h3 : ¬ y < x := fun q => h2 (decide_eq_true (by show (y : Int) < (x : Int); omega))
      rw [if_neg h3] at k
      refine ⟨_, rfl, _, rfl, a, B, dx, _, _, rfl, h1, T.cl, T.nFirst, rowf_first x st, _, _, rfl, rfl, _, rfl, a, B, dx, _, _, rfl, h1, T.cl, T.nStep, rowf_step x st, _, _, rfl, rfl, ⟨by show (0 : Int) < (st : Int); omega, by show (st : Int) < 2 ^ 64; omega⟩, _, _, rfl, rfl, ?_⟩
      have e : (((y : Int) - (x : Int)) / (st : Int)) + 1 = (((y - x) / st + 1 : Nat) : Int) := by
        have e1 : ((y : Int) - (x : Int)) = ((y - x : Nat) : Int) := by omega
        rw [e1, Int.natCast_add, Int.natCast_ediv]
        rfl
      dsimp only
      rw [e]
      exact k
end
end Uwp

end

section
set_option Elab.async false
set_option linter.all false
set_option maxRecDepth 100000
set_option maxHeartbeats 4000000
namespace Uwp
open PySem PySem.Spec PyProof.Rows L2
open PySem.W (Codec)
theorem leaf_of {ns : List Int} {f st m : Nat} (hm : 0 < m) (hn : ns = (List.range m).map fun (k : Nat) => (((f + k * st) % m : Nat) : Int)) {ks : List Int} (h1 : ks.Nodup) (h2 : ∀ x, x ∈ ks ↔ x ∈ ns) (h3 : ks.Pairwise (· ≤ ·)) :
    ∃ js : List Nat, ks = Uw79.ints js ∧ js.Pairwise (· < ·) ∧ ∀ v, v ∈ js ↔ ∃ k, k < m ∧ (f + k * st) % m = v := by
  have hmem : ∀ x, x ∈ ks ↔ ∃ k, k < m ∧ (((f + k * st) % m : Nat) : Int) = x := fun x => by
    rw [h2, hn, List.mem_map]
    constructor
    · rintro ⟨k, hk, e⟩
      exact ⟨k, List.mem_range.mp hk, e⟩
    · rintro ⟨k, hk, e⟩
      exact ⟨k, List.mem_range.mpr hk, e⟩
  have hnn : ∀ x ∈ ks, 0 ≤ x := fun x hx => by
    obtain ⟨k, _, e⟩ := (hmem x).mp hx
    omega
  refine ⟨ks.map Int.toNat, ?_, ?_, fun v => ?_⟩
  · unfold Uw79.ints
    rw [List.map_map]
    conv => lhs; rw [← List.map_id ks]
    refine List.map_congr_left fun x hx => ?_
    have := hnn x hx
    show x = ((x.toNat : Nat) : Int)
    omega
  · rw [List.pairwise_map]
    have h4 : ks.Pairwise (fun a b => a ≠ b) := h1
    refine List.Pairwise.imp_of_mem (fun {a b} ha hb hab => ?_) (h3.and h4)
    have := hnn a ha
    have := hnn b hb
    have := hab.1
    have := hab.2
    omega
  · rw [List.mem_map]
    constructor
    · rintro ⟨x, hx, e⟩
      obtain ⟨k, hk, ek⟩ := (hmem x).mp hx
      exact ⟨k, hk, by omega⟩
    · rintro ⟨k, hk, e⟩
      exact ⟨(v : Int), (hmem _).mpr ⟨k, hk, by rw [e]⟩, by omega⟩
section
variable {P : Program} {w : World} {K : PySem.W.Frag} {mg : Str → Option Value} {base : Heap} {B C D : Addr}
theorem scLeaves : FnScope ["self", "divisor", "place"] ["self", "divisor"] (defScope sLeaves) := ⟨rfl, rfl, rfl, by decide +kernel, rfl, by decide +kernel, by decide +kernel⟩
theorem bkLeaves : BlkOk ["self", "divisor", "place"] (defScope sLeaves) (lcS [(".0", .local), ("place", .local), ("divisor", .free), ("self", .free)]) [("place", 2)] := blkOk_by (by decide +kernel)
theorem ok_leaves {f : Addr} {fd : FuncData} (F : Fun K "leaves" "Row.leaves" sLeaves f fd) (T : Txt K mg C D) (TB : TxtB K mg B) (GN : MethOk P w K mg base B "number" 1 ["self", "place"] (spNumber B)) :
    FnOk P w K mg base CX0 2 f fd ["self", "divisor"] (spLeaves B) := by
  obtain ⟨fn, fdn, GN, bN, mN⟩ := GN
  refine F.ok scLeaves (fun vs H Q E h => ?_) (fun cdv A outer s H vs Q E hr h => ?_)
  · obtain ⟨a, x, st, m, rfl, _⟩ := h
    rfl
  · obtain ⟨a, x, st, m, rfl, R0, hs, hm, hm2, k⟩ := h
    refine ⟨_, pss_one (ps_ret (pe_callB (Uws.cr_sortedSet rfl) (by rfl) TB.sorted Uws.boot_sorted (pa_cons (pe_callTy (Uws.cr_set rfl) (by rfl) TB.set Uws.boot_set (pa_cons
      (pe_lc (own := [("place", 2)]) (te := tOp (rI (fun _ j => 0 < j) fun i j => .int (i % j)) (tMeth B "number" (spNumber B) [] E0 (tVar 0) (tCons (tVar 2) tNil)) (tVar 1)) rfl scLeaves.nd (pi_range1 rfl T.range (pa_cons (pv 1) pa_nil)) bkLeaves
        (fun _ _ _ _ _ => pg_name (i := 2) scLeaves.nd rfl (Or.inl rfl)) (fun _ _ _ _ _ => pts_nil) (fun _ _ _ _ _ => pe_op op_mod (pe_meth (pv 0) TB.cl mN GN hr bN .nil pass0 (pa_cons (pv 2) pa_nil)) (pv 1))) pa_nil)) pa_nil))), ?_⟩
    refine ⟨_, rfl, (m : Int), rfl, by omega, by omega, fun R hR => ?_⟩
    have sR : Same H (upd H R (.lst [])) := same_upd hR
    refine lc_range (lo := 0) (n := (m : Int).toNat) (fun i H' => H' R = some (.lst (((List.range i).map fun (k : Nat) => (((x + k * st) % m : Nat) : Int)).map V.int)) ∧ Same H H') ⟨upd_same, sR⟩ ?_ ?_
    · rintro i H1 hi ⟨hR1, s1⟩
      refine ⟨rfl, tyes ?_⟩
      obtain ⟨dx, h1⟩ := id (R0.same s1)
      have e0 : (0 : Int) + (i : Int) = (i : Int) := by omega
      rw [e0]
      refine ⟨_, rfl, a, dx, _, rfl, h1, rowf_no x st (by decide +kernel) (by decide +kernel), _, rfl, a, x, st, i, rfl, R0.same s1, hs, _, rfl, _, _, rfl, rfl, (by show (0 : Int) < (m : Int); omega), _, hR1, ?_, ?_, fun b o e => ?_⟩
      · refine small1000 ?_
        rw [List.length_map, List.length_map, List.length_range]
        omega
      · have e : (((x + i * st : Nat) : Int) % (m : Int)) = (((x + i * st) % m : Nat) : Int) := (Int.natCast_emod _ _).symm
        rw [upd_same, List.range_succ, List.map_append, List.map_append]
        dsimp only
        rw [e]
        rfl
      · rw [upd_ne (ne_of_none e hR)]
        exact s1 b o e
    · rintro H1 ⟨hR1, s1⟩
      rw [Int.toNat_natCast] at hR1
      refine ⟨R, _, rfl, SqL.of hR1, ?_, fun p hp => ?_⟩
      · rw [List.length_map, List.length_range]
        omega
      · have sp := same_upd (o := Uws.SetO P w p ((List.range m).map fun (k : Nat) => (((x + k * st) % m : Nat) : Int))) hp
        refine ⟨p, _, rfl, upd_same, ?_, fun ks q c1 c2 c3 c4 hq => ?_⟩
        · rw [List.length_map, List.length_range]
          omega
        · obtain ⟨js, ejs, d1, d2⟩ := leaf_of hm rfl c1 c2 c3
          have hl : js.length ≤ m := by
            rw [ejs, List.length_map, List.length_range] at c4
            unfold Uw79.ints at c4
            rw [List.length_map] at c4
            exact c4
          refine k js _ q d1 d2 hl ((s1.trans sp).trans (same_upd hq)) ((s1.trans sp).free hq) ?_
          rw [upd_same, ejs]
theorem scPlaceGoes : FnScope ["self", "share", "place"] ["self", "share"] (defScope sPlaceGoes) := ⟨rfl, rfl, rfl, by decide +kernel, rfl, by decide +kernel, by decide +kernel⟩
theorem ok_placeGoes {f : Addr} {fd : FuncData} (F : Fun K "place_that_goes" "Row.place_that_goes" sPlaceGoes f fd) (T : Txt K mg C D) (TB : TxtB K mg B) (GN : MethOk P w K mg base B "number" 1 ["self", "place"] (spNumber B))
    (GW : MethOk P w K mg base C "goes_with" 1 ["self", "heap"] (spGoesWith C)) : FnOk P w K mg base CX0 2 f fd ["self", "share"] (spPlaceGoes B C) := by
  obtain ⟨fn, fdn, GN, bN, mN⟩ := GN
  obtain ⟨fw, fdw, GW, bW, mW⟩ := GW
  refine F.ok scPlaceGoes (fun vs H Q E h => ?_) (fun cdv A outer s H vs Q E hr h => ?_)
  · obtain ⟨a, b, x, st, sh, rfl, _⟩ := h
    rfl
  · obtain ⟨a, b, x, st, sh, rfl, R0, S0, gs, hs, k⟩ := h
    obtain ⟨dx, h1⟩ := id R0
    obtain ⟨dy, h2⟩ := id S0
    refine ⟨_, pss_cons (ps_for PassesOwn.never rfl (pi_range1 rfl T.range (pa_cons (pe_fld (pv 1) rfl) pa_nil)) (pg_name (i := 2) scPlaceGoes.nd rfl (Or.inl rfl))
        (pss_one (ps_if (pt_val (pe_meth (pv 1) T.clC mW GW hr bW .nil pass0 (pa_cons (pe_meth (pv 0) TB.cl mN GN hr bN .nil pass0 (pa_cons (pv 2) pa_nil)) pa_nil))) (pss_one (ps_ret (pv 2))) pss_nil)))
      (pss_one (ps_ret pe_non)), ?_⟩
    have g2 := gs.2.1
    refine ⟨_, rfl, b, C, dy, _, _, rfl, h2, T.clC, T.nParts, shf_parts sh, (sh.p : Int), rfl, by omega, by omega, for_range (lo := 0) (n := (sh.p : Int).toNat)
      (fun i σ H' => ∃ v2 : Option V, σ = [some (.ref a), some (.ref b), v2] ∧ H' = H ∧ ∀ j, j < i → (x + st * j) % sh.p ≠ sh.r) ⟨none, rfl, rfl, fun j hj => by omega⟩ ?_ ?_⟩
    · rintro i σ H' hi ⟨v2, rfl, rfl, hno⟩
      rw [Int.toNat_natCast] at hi
      have e0 : (0 : Int) + (i : Int) = (i : Int) := by omega
      rw [e0]
      refine ⟨_, rfl, b, dy, _, rfl, h2, shf_no sh (by decide +kernel) (by decide +kernel) (by decide +kernel), _, rfl, a, dx, _, rfl, h1, rowf_no x st (by decide +kernel) (by decide +kernel), _, rfl, a, x, st, i, rfl, R0, hs, b, sh, _, rfl, S0, gs, _, rfl, ite2 (fun h3 => ?_) fun h3 => ?_⟩
      · have h4 : (x + i * st) % sh.p = sh.r := of_decide_eq_true h3
        rw [Nat.mul_comm] at h4
        have e := Uwm.placeOf_some hi h4 hno
        rw [e] at k
        exact ⟨_, rfl, k⟩
      · have h4 : ¬ (x + i * st) % sh.p = sh.r := fun q => h3 (decide_eq_true q)
        rw [Nat.mul_comm] at h4
        refine ⟨some (.int (i : Int)), rfl, rfl, fun j hj => ?_⟩
        by_cases e : j = i
        · rw [e]; exact h4
        · exact hno j (by omega)
    · rintro σ H' ⟨v2, rfl, rfl, hno⟩
      rw [Int.toNat_natCast] at hno
      have e := Uwm.placeOf_none hno
      rw [e] at k
      exact k
theorem scBetween : FnScope ["self", "share", "places"] ["self", "share"] (defScope sPlacesBetween) := ⟨rfl, rfl, rfl, by decide +kernel, rfl, by decide +kernel, by decide +kernel⟩
def upTo (n : Nat) : Option (Option V) → Nat
  | some (some (V.int z)) => n - z.toNat
  | _ => 0
theorem ok_between {f : Addr} {fd : FuncData} (F : Fun K "places_between" "Row.places_between" sPlacesBetween f fd) (T : Txt K mg C D) (TB : TxtB K mg B) : FnOk P w K mg base CX0 1 f fd ["self", "share"] (spBetween B C) := by
  refine F.ok scBetween (fun vs H Q E h => ?_) (fun cdv A outer s H vs Q E hr h => ?_)
  · obtain ⟨a, b, x, st, sh, rfl, _⟩ := h
    rfl
  · obtain ⟨a, b, x, st, sh, rfl, R0, S0, gs, k⟩ := h
    obtain ⟨dx, h1⟩ := id R0
    obtain ⟨dy, h2⟩ := id S0
    have hp : 0 < sh.p := by have := gs.1; omega
    have g2 := gs.2.1
    refine ⟨_, pss_cons (ps_set (i := 2) scBetween.nd rfl (Or.inl rfl) pe_int)
      (pss_cons (ps_while PassesOwn.never (pt_cmpR op_ne (pe_op op_mod (pe_op op_mul (pv 2) (pe_fld (pv 0) rfl)) (pe_fld (pv 1) rfl)) pe_int (nomark _))
        (pss_one (ps_aug (i := 2) scBetween.nd rfl (Or.inl rfl) pe_int ip_add)))
      (pss_one (ps_ret (pv 2)))), ?_⟩
    have hj0 := Uwm.btw_pos st sh.p hp
    have hj1 := Uwm.btw_le st sh.p
    refine while_by (fun σ H' => ∃ j : Nat, σ = [some (.ref a), some (.ref b), some (.int (j : Int))] ∧ H' = H ∧ 0 < j ∧ j ≤ sh.p / Nat.gcd st sh.p) (fun σ _ => upTo (sh.p + 1) σ[2]?) ⟨1, rfl, rfl, by omega, hj0⟩ ?_ ?_
    · rintro σ H' ⟨j, rfl, rfl, h3, h4⟩
      have e : (((j : Int) * (st : Int)) % (sh.p : Int)) = ((j * st % sh.p : Nat) : Int) := by rw [← Int.natCast_mul]; exact (Int.natCast_emod _ _).symm
      refine ⟨_, rfl, _, rfl, a, B, dx, _, _, rfl, h1, TB.cl, TB.nStep, rowf_step x st, _, _, rfl, rfl, .inl ⟨by omega, by omega⟩, _, rfl, b, C, dy, _, _, rfl, h2, T.clC, T.nParts, shf_parts sh, _, _, rfl, rfl, (by show (0 : Int) < (sh.p : Int); omega), rfl, _, rfl, ite2 (fun h5 => ?_) fun h5 => ?_⟩
      · have h6 : ¬ j * st % sh.p = 0 := fun q => of_decide_eq_false ((Bool.not_eq_true' _).mp h5) (congrArg V.int (e.trans (by rw [q]; rfl)))
        have h7 : j < sh.p / Nat.gcd st sh.p := by
          rcases Nat.lt_or_eq_of_le h4 with q | q
          · exact q
          · exact absurd (q ▸ Uwm.btw_zero st sh.p) h6
        refine ⟨_, rfl, _, _, rfl, rfl, ⟨j + 1, rfl, rfl, by omega, h7⟩, ?_⟩
        show sh.p + 1 - ((j : Int) + 1).toNat < sh.p + 1 - (j : Int).toNat
        omega
      · have h6 : j * st % sh.p = 0 := by
          by_cases q : j * st % sh.p = 0
          · exact q
          · refine absurd ((Bool.not_eq_true' _).mpr (decide_eq_false fun c => q ?_)) h5
            have c2 := e.symm.trans (V.int.inj c)
            omega
        have h7 := Uwm.btw_min st sh.p hp h3 h6
        have e7 : j = sh.p / Nat.gcd st sh.p := by omega
        rw [← e7] at k
        exact ⟨_, rfl, k⟩
    · rintro σ H' R R' hRR ⟨v1, e1, v2, e2, a', C', dx', fs', x', e3, e4, e5, e6, e7, i, j, e8, e9, e10, v3, e11, b', C2, dx2, fs2, x2, g3, g4, g5, g6, g7, i2, j2, g8, g9, g10, g11, kk, g12, h⟩
      exact ⟨v1, e1, v2, e2, a', C', dx', fs', x', e3, e4, e5, e6, e7, i, j, e8, e9, e10, v3, e11, b', C2, dx2, fs2, x2, g3, g4, g5, g6, g7, i2, j2, g8, g9, g10, g11, kk, g12, hRR _ _ h⟩
theorem scThinned : FnScope ["self", "place", "places"] ["self", "place", "places"] (defScope sThinned) := ⟨rfl, rfl, rfl, by decide +kernel, rfl, by decide +kernel, by decide +kernel⟩
theorem ok_thinned {f : Addr} {fd : FuncData} (F : Fun K "thinned" "Row.thinned" sThinned f fd) (TB : TxtB K mg B) (GN : MethOk P w K mg base B "number" 1 ["self", "place"] (spNumber B))
    (GI : MakeOk P w K mg base B 1 ["self", "first", "step"] (spRowInit B)) : FnOk P w K mg base CX0 3 f fd ["self", "place", "places"] (spThinned B) := by
  obtain ⟨fn, fdn, GN, bN, mN⟩ := GN
  obtain ⟨fi, fdi, GI, bI, MI⟩ := GI
  refine F.ok scThinned (fun vs H Q E h => ?_) (fun cdv A outer s H vs Q E hr h => ?_)
  · obtain ⟨a, x, st, k0, j, rfl, _⟩ := h
    rfl
  · obtain ⟨a, x, st, k0, j, rfl, R0, hs, k⟩ := h
    obtain ⟨dx, h1⟩ := id R0
    have hr1 : Room 1 _ := hr.mono (by decide)
    refine ⟨_, pss_one (ps_ret (pe_make MI GI hr rfl TB.mgB bI .nil pass0 (pa_cons (pe_meth (pv 0) TB.cl mN GN hr1 bN .nil pass0 (pa_cons (pv 1) pa_nil)) (pa_cons (pe_op op_mul (pv 2) (pe_fld (pv 0) rfl)) pa_nil)))), ?_⟩
    refine ⟨_, rfl, a, dx, _, rfl, h1, rowf_no x st (by decide +kernel) (by decide +kernel), _, rfl, a, x, st, k0, rfl, R0, hs, _, rfl, _, rfl, a, B, dx, _, _, rfl, h1, TB.cl, TB.nStep, rowf_step x st, _, _, rfl, rfl, .inr ⟨by omega, by omega⟩, ?_⟩
    have e : ((j : Int) * (st : Int)) = ((j * st : Nat) : Int) := (Int.natCast_mul _ _).symm
    dsimp only
    rw [e]
    exact fun q dq nq ndq ne => ⟨q, dq, x + k0 * st, j * st, rfl, upd_same, fun H1 hA kp => ⟨rfl, k H1 q hA (Same.made nq ndq kp) nq⟩⟩
theorem scRests : FnScope ["self", "share", "first"] ["self", "share"] (defScope sRestsBehind) := ⟨rfl, rfl, rfl, by decide +kernel, rfl, by decide +kernel, by decide +kernel⟩
theorem ok_rests {f : Addr} {fd : FuncData} (F : Fun K "rests_behind" "Row.rests_behind" sRestsBehind f fd) (T : Txt K mg C D) (TB : TxtB K mg B) (GP : MethOk P w K mg base C "part_size" 1 ["self", "heap"] (spPartSize C))
    (GB : MethOk P w K mg base C "heap_behind" 1 ["self", "size"] (spHeapBehind C)) (GI : MakeOk P w K mg base B 1 ["self", "first", "step"] (spRowInit B)) : FnOk P w K mg base CX0 3 f fd ["self", "share"] (spRests B C) := by
  obtain ⟨fp, fdp, GP, bP, mP⟩ := GP
  obtain ⟨fb, fdb, GB, bB, mB⟩ := GB
  obtain ⟨fi, fdi, GI, bI, MI⟩ := GI
  refine F.ok scRests (fun vs H Q E h => ?_) (fun cdv A outer s H vs Q E hr h => ?_)
  · obtain ⟨a, b, x, st, sh, rfl, _⟩ := h
    rfl
  · obtain ⟨a, b, x, st, sh, rfl, R0, S0, gs, hx, k⟩ := h
    obtain ⟨dx, h1⟩ := id R0
    obtain ⟨dy, h2⟩ := id S0
    have hp := gs.1
    have g2 := gs.2.1
    have hr1 : Room 1 _ := hr.mono (by decide)
    refine ⟨_, pss_cons (ps_set (i := 2) scRests.nd rfl (Or.inl rfl) (pe_meth (pv 1) T.clC mB GB hr1 bB .nil pass0 (pa_cons (pe_meth (pv 1) T.clC mP GP hr1 bP .nil pass0 (pa_cons (pe_fld (pv 0) rfl) pa_nil)) pa_nil)))
      (pss_one (ps_ret (pe_make MI GI hr rfl TB.mgB bI .nil pass0 (pa_cons (pv 2) (pa_cons (pe_meth (pv 1) T.clC mB GB hr1 bB .nil pass0 (pa_cons (pe_op op_fdiv (pe_fld (pv 0) rfl) (pe_fld (pv 1) rfl)) pa_nil)) pa_nil))))), ?_⟩
    have nob : (shf sh).lookup ("heap_behind" : Str) = none := shf_no sh (by decide +kernel) (by decide +kernel) (by decide +kernel)
    have nop : (shf sh).lookup ("part_size" : Str) = none := shf_no sh (by decide +kernel) (by decide +kernel) (by decide +kernel)
    refine ⟨_, rfl, b, dy, _, rfl, h2, nob, _, rfl, b, dy, _, rfl, h2, nop, _, rfl, a, B, dx, _, _, rfl, h1, TB.cl, TB.nFirst, rowf_first x st, b, sh, x, rfl, S0, gs, hx, b, sh, _, rfl, S0, gs, ?_⟩
    refine ⟨_, rfl, _, rfl, b, dy, _, rfl, h2, nob, _, rfl, a, B, dx, _, _, rfl, h1, TB.cl, TB.nStep, rowf_step x st, _, rfl, b, C, dy, _, _, rfl, h2, T.clC, T.nParts, shf_parts sh, _, _, rfl, rfl, ⟨by show (0 : Int) < (sh.p : Int); omega, by show (sh.p : Int) < _; omega⟩, ?_⟩
    have e : ((st : Int) / (sh.p : Int)) = ((st / sh.p : Nat) : Int) := (Int.natCast_ediv _ _).symm
    dsimp only
    rw [e]
    exact ⟨b, sh, _, rfl, S0, gs, fun q dq nq ndq ne => ⟨q, dq, _, _, rfl, upd_same, fun H1 hA kp => ⟨rfl, k H1 q hA (Same.made nq ndq kp) nq⟩⟩⟩
theorem scRowThrough : FnScope ["first", "second"] ["first", "second"] (defScope sRowThrough) := ⟨rfl, rfl, rfl, by decide +kernel, rfl, by decide +kernel, by decide +kernel⟩
theorem ok_rowThrough {f : Addr} {fd : FuncData} (F : Fun K "row_through" "row_through" sRowThrough f fd) (TB : TxtB K mg B) (GI : MakeOk P w K mg base B 1 ["self", "first", "step"] (spRowInit B)) : FnOk P w K mg base CX0 3 f fd ["first", "second"] (spRowThrough B) := by
  obtain ⟨fi, fdi, GI, bI, MI⟩ := GI
  refine F.ok scRowThrough (fun vs H Q E h => ?_) (fun cdv A outer s H vs Q E hr h => ?_)
  · obtain ⟨x, y, rfl, _⟩ := h
    rfl
  · obtain ⟨x, y, rfl, hxy, k⟩ := h
    refine ⟨_, pss_one (ps_ret (pe_make MI GI hr rfl TB.mgB bI .nil pass0 (pa_cons (pv 0) (pa_cons (pe_op op_sub (pv 1) (pv 0)) pa_nil)))), ?_⟩
    refine ⟨_, rfl, _, rfl, _, rfl, _, _, rfl, rfl, ?_⟩
    have e : ((y : Int) - (x : Int)) = ((y - x : Nat) : Int) := by omega
    dsimp only
    rw [e]
    exact fun q dq nq ndq ne => ⟨q, dq, x, y - x, rfl, upd_same, fun H1 hA kp => ⟨rfl, k H1 q hA (Same.made nq ndq kp) nq⟩⟩
end
end Uwp

end

section
set_option Elab.async false
set_option linter.all false
set_option maxRecDepth 100000
set_option maxHeartbeats 4000000
namespace Uwp
open PySem PySem.Spec PyProof.Rows L2
open PySem.W (Codec)
def spGoing (B C D : Addr) : Sp := fun vs H Q _ => ∃ (n la : Addr) (l : Uw79.Night), vs = [.ref n] ∧ NightAt C D H n la l ∧ Uwm.Ok l ∧ (Uw79.heaps l = none → ∀ H' : Hp, Same H H' → Q .non H') ∧ ∀ h, Uw79.heaps l = some h → NewRow B H h.first h.step Q
theorem isN {A B : Prop} (h : A) : if decide (V.non = V.non) = true then A else B := ite2 (fun _ => h) fun z => (z (decide_eq_true rfl)).elim
theorem notN {A B : Prop} {a : Addr} (h : B) : if decide (V.ref a = V.non) = true then A else B := ite2 (fun z => nomatch (of_decide_eq_true z)) fun _ => h
theorem notNi {A B : Prop} {a : Int} (h : B) : if decide (V.int a = V.non) = true then A else B := ite2 (fun z => nomatch (of_decide_eq_true z)) fun _ => h
section
variable {P : Program} {w : World} {K : PySem.W.Frag} {mg : Str → Option Value} {base : Heap} {B C D : Addr}
theorem scGoing : FnScope ["self", "going", "rests", "share", "place", "places"] ["self"] (defScope sGoingHeaps) := ⟨rfl, rfl, rfl, by decide +kernel, rfl, by decide +kernel, by decide +kernel⟩
theorem ok_going {f : Addr} {fd : FuncData} (F : Fun K "going_heaps" "Night.going_heaps" sGoingHeaps f fd) (T : Txt K mg C D) (TB : TxtB K mg B) (GI : MakeOk P w K mg base B 1 ["self", "first", "step"] (spRowInit B))
    (GG : MethOk P w K mg base B "place_that_goes" 2 ["self", "share"] (spPlaceGoes B C)) (GW : MethOk P w K mg base B "places_between" 1 ["self", "share"] (spBetween B C)) (GT : MethOk P w K mg base B "thinned" 3 ["self", "place", "places"] (spThinned B))
    (GR : MethOk P w K mg base B "rests_behind" 3 ["self", "share"] (spRests B C)) : FnOk P w K mg base CX0 4 f fd ["self"] (spGoing B C D) := by
  obtain ⟨fi, fdi, GI, bI, MI⟩ := GI
  obtain ⟨fg, fdg, GG, bG, mG⟩ := GG
  obtain ⟨fw, fdw, GW, bW, mW⟩ := GW
  obtain ⟨ft, fdt, GT, bT, mT⟩ := GT
  obtain ⟨fr, fdr, GR, bR, mR⟩ := GR
  refine F.ok scGoing (fun vs H Q E h => ?_) (fun cdv A outer s H vs Q E hr h => ?_)
  · obtain ⟨n, la, l, rfl, _⟩ := h
    rfl
  · obtain ⟨n, la, l, rfl, N, ok, k0, k1⟩ := h
    obtain ⟨⟨dx, hn⟩, as, S⟩ := id N
    have hr1 : Room 1 _ := hr.mono (by decide)
    have hr2 : Room 2 _ := hr.mono (by decide)
    refine ⟨_, pss_cons (ps_set (i := 1) scGoing.nd rfl (Or.inl rfl) (pe_make MI GI hr2 rfl TB.mgB bI .nil pass0 (pa_cons pe_int (pa_cons pe_int pa_nil))))
      (pss_cons (ps_set (i := 2) scGoing.nd rfl (Or.inl rfl) (pe_make MI GI hr2 rfl TB.mgB bI .nil pass0 (pa_cons pe_int (pa_cons pe_int pa_nil))))
      (pss_cons (ps_for PassesOwn.never rfl (pi_list (pe_fld (pv 0) rfl)) (pg_name (i := 3) scGoing.nd rfl (Or.inl rfl))
        (pss_cons (ps_set (i := 4) scGoing.nd rfl (Or.inl rfl) (pe_meth (pv 2) TB.cl mG GG hr2 bG .nil pass0 (pa_cons (pv 3) pa_nil)))
        (pss_cons (ps_if (pt_cmp (pc_isN (pv 4))) (pss_one (ps_ret pe_non)) pss_nil)
        (pss_cons (ps_set (i := 5) scGoing.nd rfl (Or.inl rfl) (pe_meth (pv 2) TB.cl mW GW hr1 bW .nil pass0 (pa_cons (pv 3) pa_nil)))
        (pss_cons (ps_set (i := 1) scGoing.nd rfl (Or.inl rfl) (pe_meth (pv 1) TB.cl mT GT hr bT .nil pass0 (pa_cons (pv 4) (pa_cons (pv 5) pa_nil))))
        (pss_one (ps_set (i := 2) scGoing.nd rfl (Or.inl rfl) (pe_meth (pe_meth (pv 2) TB.cl mT GT hr bT .nil pass0 (pa_cons (pv 4) (pa_cons (pv 5) pa_nil))) TB.cl mR GR hr bR .nil pass0 (pa_cons (pv 3) pa_nil)))))))))
      (pss_one (ps_ret (pv 1))))), ?_⟩
    intro g0 dg nng ndg neg
    refine ⟨g0, dg, 0, 1, rfl, upd_same, fun H1 G1 kp1 => ⟨rfl, ?_⟩⟩
    have s1 : Same H H1 := Same.made nng ndg kp1
    intro r0 dr nnr ndr ner
    refine ⟨r0, dr, 0, 1, rfl, upd_same, fun H2 R2 kp2 => ⟨rfl, ?_⟩⟩
    have s2 : Same H1 H2 := Same.made nnr ndr kp2
    have s12 := s1.trans s2
    refine ⟨_, rfl, n, D, dx, _, _, rfl, s12 _ _ hn, T.clD, T.nShares, nf_shares la, la, rfl, ⟨_, SqL.of (s12 _ _ S.lst)⟩, for_list (K := K) (a := la) (xs := as.map V.ref)
      (fun i σ H' => ∃ (g r : Addr) (h : Uw79.Heaps) (v3 v4 v5 : Option V), σ = [some (.ref n), some (.ref g), some (.ref r), v3, v4, v5] ∧ Uw79.heaps (l.take i) = some h ∧ RowAt B H' g h.first h.step ∧ RowAt B H' r h.rest h.more ∧ H g = none ∧ Same H H')
      ⟨g0, r0, Uw79.whole, none, none, none, rfl, rfl, G1.same s2, R2, nng, s12⟩ (fun i σ H' _ ⟨_, _, _, _, _, _, _, _, _, _, _, s3⟩ => SqL.of (s3 _ _ S.lst)) ?_ ?_⟩
    · rintro i y σ H3 hi ⟨g, r, h, v3, v4, v5, rfl, eh, G3, R3, hg, s3⟩
      obtain ⟨a, sh, ha, hs, rfl, A3⟩ := (S.same s3).get hi
      have gs : Uwm.GoodS sh := ok.1 sh (List.mem_of_getElem? hs)
      have hlen : (l.take i).length ≤ 10 := by
        rw [List.length_take]
        have := ok.2
        omega
      obtain ⟨b1, b2, b3, b4⟩ := Uwm.bounds (Uwm.good_take ok.1 i) hlen eh
      obtain ⟨dr3, er3⟩ := id R3
      obtain ⟨dg3, eg3⟩ := id G3
      have rno : ∀ {m : Str}, ¬ m = "step" → ¬ m = "first" → (rowf h.rest h.more).lookup m = none := fun q1 q2 => rowf_no _ _ q1 q2
      refine ⟨_, rfl, r, dr3, _, rfl, er3, rno (by decide +kernel) (by decide +kernel), _, rfl, r, a, h.rest, h.more, sh, rfl, R3, A3, gs, by omega, ?_⟩
      have en := Uwm.heaps_take hs
      rw [eh] at en
      have en2 : Uw79.heaps (l.take (i + 1)) = Uw79.narrowed h sh := en
      rw [Uwm.narrowed_place] at en2
      cases ep : Uwm.placeOf h.rest h.more sh with
      | none =>
        rw [ep] at en2
        refine ⟨_, rfl, _, rfl, isN ?_⟩
        exact k0 (Uwm.heaps_none en2) H3 s3
      | some kk =>
        rw [ep] at en2
        obtain ⟨hk1, hk2⟩ := Uwm.placeOf_lt ep
        refine ⟨_, rfl, _, rfl, notNi ?_⟩
        refine ⟨_, rfl, r, dr3, _, rfl, er3, rno (by decide +kernel) (by decide +kernel), _, rfl, r, a, h.rest, h.more, sh, rfl, R3, A3, gs, ?_⟩
        refine ⟨_, rfl, g, dg3, _, rfl, eg3, rowf_no _ _ (by decide +kernel) (by decide +kernel), _, rfl, _, rfl, g, h.first, h.step, kk, sh.p / Nat.gcd h.more sh.p, rfl, G3, by omega, fun H4 g4 G4 s4 hg4 => ?_⟩
        have R4 := R3.same s4
        obtain ⟨dr4, er4⟩ := id R4
        refine ⟨_, rfl, r, dr4, _, rfl, er4, rno (by decide +kernel) (by decide +kernel), _, rfl, _, rfl, r, h.rest, h.more, kk, sh.p / Nat.gcd h.more sh.p, rfl, R4, by omega, fun H5 r5 R5 s5 hr5 => ?_⟩
        obtain ⟨dr5, er5⟩ := id R5
        have A5 := (A3.same s4).same s5
        have hle : sh.r ≤ h.rest + kk * h.more := by
          have q := Nat.mod_le (h.rest + h.more * kk) sh.p
          rw [hk2] at q
          rw [Nat.mul_comm]
          exact q
        refine ⟨r5, dr5, _, rfl, er5, rowf_no _ _ (by decide +kernel) (by decide +kernel), _, rfl, r5, a, _, _, sh, rfl, R5, A5, gs, hle, fun H6 r6 R6 s6 hr6 => ?_⟩
        refine ⟨g4, r6, ⟨h.first + h.step * kk, h.step * (sh.p / Nat.gcd h.more sh.p), (sh.p - sh.t) * ((h.rest + h.more * kk - sh.r) / sh.p), (sh.p - sh.t) * (h.more * (sh.p / Nat.gcd h.more sh.p) / sh.p)⟩, _, _, _, rfl, en2, ?_, ?_, s3.free hg4, ((s3.trans s4).trans s5).trans s6⟩
        · have q := (G4.same s5).same s6
          rw [Nat.mul_comm kk, Nat.mul_comm _ h.step] at q
          exact q
        · rw [Nat.mul_comm kk, Nat.mul_comm _ h.more] at R6
          exact R6
    · rintro σ H3 ⟨g, r, h, v3, v4, v5, rfl, eh, G3, R3, hg, s3⟩
      have e1 : l.take (as.map V.ref).length = l := by
        rw [List.length_map, S.len, List.take_length]
      rw [e1] at eh
      exact ⟨_, rfl, k1 h eh H3 g G3 s3 hg⟩
end
end Uwp

end

section
set_option Elab.async false
set_option linter.all false
set_option maxRecDepth 100000
set_option maxHeartbeats 4000000
namespace Uwp
open PySem PySem.Spec PyProof.Rows L2
open PySem.W (Codec)
def spAsk0 (C D : Addr) (g : Uw79.Night → List Int) : Sp := fun vs H Q _ => ∃ (n la : Addr) (l : Uw79.Night), vs = [.ref n] ∧ NightAt C D H n la l ∧ Uwm.Ok l ∧
  ∀ (H' : Hp) (p : Addr), Same H H' → H p = none → H' p = some (.lst ((g l).map V.int)) → Q (.ref p) H'
def spAsk2 (C D : Addr) (g : Uw79.Night → Nat → Nat → List Int) : Sp := fun vs H Q _ => ∃ (n la : Addr) (l : Uw79.Night) (x y : Nat), vs = [.ref n, .int (x : Int), .int (y : Int)] ∧ x < 2 ^ 32 ∧ NightAt C D H n la l ∧ Uwm.Ok l ∧
  ∀ (H' : Hp) (p : Addr), Same H H' → H p = none → H' p = some (.lst ((g l x y).map V.int)) → Q (.ref p) H'
theorem at_nat {zs : List Nat} {i : Nat} (h : i < zs.length) : ((Uw79.ints zs).map V.int)[i]? = some (V.int ((zs.getD i 0 : Nat) : Int)) := by
  unfold Uw79.ints
  rw [List.map_map, List.getElem?_map, List.getD_eq_getElem?_getD, List.getElem?_eq_getElem h]
  rfl
section
variable {P : Program} {w : World} {K : PySem.W.Frag} {mg : Str → Option Value} {base : Heap} {B C D : Addr}
theorem scLeast : FnScope ["self", "bound", "going"] ["self", "bound"] (defScope sLeast) := ⟨rfl, rfl, rfl, by decide +kernel, rfl, by decide +kernel, by decide +kernel⟩
theorem ok_least {f : Addr} {fd : FuncData} (F : Fun K "least" "Night.least" sLeast f fd) (T : Txt K mg C D) (TB : TxtB K mg B) (GG : MethOk P w K mg base D "going_heaps" 4 ["self"] (spGoing B C D))
    (GN : MethOk P w K mg base B "number" 1 ["self", "place"] (spNumber B)) (GF : MethOk P w K mg base B "place_from" 2 ["self", "bound"] (spPlaceFrom B)) : FnOk P w K mg base CX0 5 f fd ["self", "bound"] (spAsk1 C D fun l x => (Uw79.step l (.least x)).2) := by
  obtain ⟨fg, fdg, GG, bG, mG⟩ := GG
  obtain ⟨fn, fdn, GN, bN, mN⟩ := GN
  obtain ⟨ff, fdf, GF, bF, mF⟩ := GF
  obtain ⟨t1, c1⟩ := TB.cNoHeap
  refine F.ok scLeast (fun vs H Q E h => ?_) (fun cdv A outer s H vs Q E hr h => ?_)
  · obtain ⟨n, la, l, x, rfl, _⟩ := h
    rfl
  · obtain ⟨n, la, l, x, rfl, hx, N, ok, k⟩ := h
    obtain ⟨⟨dx, hn⟩, as, S⟩ := id N
    have hr1 : Room 1 _ := hr.mono (by decide)
    have hr2 : Room 2 _ := hr.mono (by decide)
    refine ⟨_, pss_cons (ps_set (i := 2) scLeast.nd rfl (Or.inl rfl) (pe_meth0 (pv 0) T.clD mG GG hr bG .nil pass0))
      (pss_cons (ps_if (pt_cmp (pc_isN (pv 2))) (pss_one (ps_ret (pe_lst (pa_cons (pe_glob (v := .int (-6)) rfl c1 ⟨t1, rfl⟩) pa_nil)))) pss_nil)
      (pss_one (ps_ret (pe_lst (pa_cons (pe_meth (pv 2) TB.cl mN GN hr1 bN .nil pass0 (pa_cons (pe_meth (pv 2) TB.cl mF GF hr2 bF .nil pass0 (pa_cons (pv 1) pa_nil)) pa_nil)) pa_nil))))), ?_⟩
    refine ⟨_, rfl, n, dx, _, rfl, hn, nf_no la (by decide +kernel), n, la, l, rfl, N, ok, fun eh H1 s1 => ?_, fun h eh H1 g G1 s1 hg => ?_⟩
    · refine ⟨_, rfl, _, rfl, isN ⟨(by show 1 ≤ sizeLine; decide), fun p hp => k _ p (s1.trans (same_upd hp)) (s1.free hp) ?_⟩⟩
      have e : (Uw79.step l (.least x)).2 = [-6] := by
        show (match Uw79.heaps l with | none => [-6] | some h => _) = _
        rw [eh]
      rw [upd_same]
      show _ = some (HO.lst ((Uw79.step l (.least x)).2.map V.int))
      rw [e]
      rfl
    · obtain ⟨dg, eg⟩ := id G1
      obtain ⟨b1, b2, b3, b4⟩ := Uwm.bounds ok.1 ok.2 eh
      have I := (Uwm.heaps_inv l ok.1).1 h eh
      have hpos := I.pos
      refine ⟨_, rfl, _, rfl, notN ?_⟩
      refine ⟨_, rfl, g, dg, _, rfl, eg, rowf_no _ _ (by decide +kernel) (by decide +kernel), _, rfl, g, dg, _, rfl, eg, rowf_no _ _ (by decide +kernel) (by decide +kernel), _, rfl, g, h.first, h.step, x, rfl, G1, by omega, ?_⟩
      have ev : placeV h.first h.step x = .int ((if x ≤ h.first then 0 else (x - h.first + h.step - 1) / h.step : Nat) : Int) := by
        unfold placeV
        by_cases q : x ≤ h.first
        · rw [if_pos q, if_pos q]
          rfl
        · rw [if_neg q, if_neg q, if_neg (by omega)]
      rw [ev]
      refine ⟨g, h.first, h.step, _, rfl, G1, by omega, (by show 1 ≤ sizeLine; decide), fun p hp => k _ p (s1.trans (same_upd hp)) (s1.free hp) ?_⟩
      have e : (Uw79.step l (.least x)).2 = [((h.first + (if x ≤ h.first then 0 else (x - h.first + h.step - 1) / h.step) * h.step : Nat) : Int)] := by
        show (match Uw79.heaps l with | none => [-6] | some h => [(Uw79.leastFrom h x : Int)]) = _
        rw [eh]
        show [(Uw79.leastFrom h x : Int)] = _
        unfold Uw79.leastFrom
        by_cases q : x ≤ h.first
        · rw [if_pos q, if_pos q, Nat.zero_mul, Nat.add_zero]
        · rw [if_neg q, if_neg q]
      rw [upd_same]
      show _ = some (HO.lst ((Uw79.step l (.least x)).2.map V.int))
      rw [e]
      rfl
theorem scEvery : FnScope ["self", "going"] ["self"] (defScope sEvery) := ⟨rfl, rfl, rfl, by decide +kernel, rfl, by decide +kernel, by decide +kernel⟩
theorem ok_every {f : Addr} {fd : FuncData} (F : Fun K "every" "Night.every" sEvery f fd) (T : Txt K mg C D) (TB : TxtB K mg B) (GG : MethOk P w K mg base D "going_heaps" 4 ["self"] (spGoing B C D)) :
    FnOk P w K mg base CX0 5 f fd ["self"] (spAsk0 C D fun l => (Uw79.step l .every).2) := by
  obtain ⟨fg, fdg, GG, bG, mG⟩ := GG
  obtain ⟨t1, c1⟩ := TB.cNoHeap
  refine F.ok scEvery (fun vs H Q E h => ?_) (fun cdv A outer s H vs Q E hr h => ?_)
  · obtain ⟨n, la, l, rfl, _⟩ := h
    rfl
  · obtain ⟨n, la, l, rfl, N, ok, k⟩ := h
    obtain ⟨⟨dx, hn⟩, as, S⟩ := id N
    refine ⟨_, pss_cons (ps_set (i := 1) scEvery.nd rfl (Or.inl rfl) (pe_meth0 (pv 0) T.clD mG GG hr bG .nil pass0))
      (pss_cons (ps_if (pt_cmp (pc_isN (pv 1))) (pss_one (ps_ret (pe_lst (pa_cons (pe_glob (v := .int (-6)) rfl c1 ⟨t1, rfl⟩) pa_nil)))) pss_nil)
      (pss_one (ps_ret (pe_lst (pa_cons (pe_fld (pv 1) rfl) (pa_cons (pe_fld (pv 1) rfl) pa_nil)))))), ?_⟩
    refine ⟨_, rfl, n, dx, _, rfl, hn, nf_no la (by decide +kernel), n, la, l, rfl, N, ok, fun eh H1 s1 => ?_, fun h eh H1 g G1 s1 hg => ?_⟩
    · refine ⟨_, rfl, _, rfl, isN ⟨(by show 1 ≤ sizeLine; decide), fun p hp => k _ p (s1.trans (same_upd hp)) (s1.free hp) ?_⟩⟩
      have e : (Uw79.step l .every).2 = [-6] := by
        show (match Uw79.heaps l with | none => [-6] | some h => _) = _
        rw [eh]
      rw [upd_same]
      show _ = some (HO.lst ((Uw79.step l .every).2.map V.int))
      rw [e]
      rfl
    · obtain ⟨dg, eg⟩ := id G1
      refine ⟨_, rfl, _, rfl, notN ?_⟩
      refine ⟨_, rfl, g, B, dg, _, _, rfl, eg, TB.cl, TB.nFirst, rowf_first _ _, _, rfl, g, B, dg, _, _, rfl, eg, TB.cl, TB.nStep, rowf_step _ _, (by show 2 ≤ sizeLine; decide), fun p hp => k _ p (s1.trans (same_upd hp)) (s1.free hp) ?_⟩
      have e : (Uw79.step l .every).2 = [(h.first : Int), (h.step : Int)] := by
        show (match Uw79.heaps l with | none => [-6] | some h => Uw79.ints [h.first, h.step]) = _
        rw [eh]
        rfl
      rw [upd_same]
      show _ = some (HO.lst ((Uw79.step l .every).2.map V.int))
      rw [e]
      rfl
theorem scCountGoing : FnScope ["self", "bound", "going"] ["self", "bound"] (defScope sCountGoing) := ⟨rfl, rfl, rfl, by decide +kernel, rfl, by decide +kernel, by decide +kernel⟩
theorem ok_countGoing {f : Addr} {fd : FuncData} (F : Fun K "count_going" "Night.count_going" sCountGoing f fd) (T : Txt K mg C D) (TB : TxtB K mg B) (GG : MethOk P w K mg base D "going_heaps" 4 ["self"] (spGoing B C D))
    (GC : MethOk P w K mg base B "count_to" 1 ["self", "bound"] (spCountTo B)) : FnOk P w K mg base CX0 5 f fd ["self", "bound"] (spAsk1 C D fun l x => (Uw79.step l (.count x)).2) := by
  obtain ⟨fg, fdg, GG, bG, mG⟩ := GG
  obtain ⟨fc, fdc, GC, bC, mC⟩ := GC
  refine F.ok scCountGoing (fun vs H Q E h => ?_) (fun cdv A outer s H vs Q E hr h => ?_)
  · obtain ⟨n, la, l, x, rfl, _⟩ := h
    rfl
  · obtain ⟨n, la, l, x, rfl, hx, N, ok, k⟩ := h
    obtain ⟨⟨dx, hn⟩, as, S⟩ := id N
    have hr1 : Room 1 _ := hr.mono (by decide)
    refine ⟨_, pss_cons (ps_set (i := 2) scCountGoing.nd rfl (Or.inl rfl) (pe_meth0 (pv 0) T.clD mG GG hr bG .nil pass0))
      (pss_cons (ps_if (pt_cmp (pc_isN (pv 2))) (pss_one (ps_ret (pe_lst (pa_cons pe_int pa_nil)))) pss_nil)
      (pss_one (ps_ret (pe_lst (pa_cons (pe_meth (pv 2) TB.cl mC GC hr1 bC .nil pass0 (pa_cons (pv 1) pa_nil)) pa_nil))))), ?_⟩
    refine ⟨_, rfl, n, dx, _, rfl, hn, nf_no la (by decide +kernel), n, la, l, rfl, N, ok, fun eh H1 s1 => ?_, fun h eh H1 g G1 s1 hg => ?_⟩
    · refine ⟨_, rfl, _, rfl, isN ⟨(by show 1 ≤ sizeLine; decide), fun p hp => k _ p (s1.trans (same_upd hp)) (s1.free hp) ?_⟩⟩
      have e : (Uw79.step l (.count x)).2 = [0] := by
        show (match Uw79.heaps l with | none => [0] | some h => [(Uw79.countTo h x : Int)]) = _
        rw [eh]
      rw [upd_same]
      show _ = some (HO.lst ((Uw79.step l (.count x)).2.map V.int))
      rw [e]
      rfl
    · obtain ⟨dg, eg⟩ := id G1
      obtain ⟨b1, b2, b3, b4⟩ := Uwm.bounds ok.1 ok.2 eh
      have I := (Uwm.heaps_inv l ok.1).1 h eh
      refine ⟨_, rfl, _, rfl, notN ?_⟩
      refine ⟨_, rfl, g, dg, _, rfl, eg, rowf_no _ _ (by decide +kernel) (by decide +kernel), _, rfl, g, h.first, h.step, x, rfl, G1, I.pos, by omega, (by show 1 ≤ sizeLine; decide), fun p hp => k _ p (s1.trans (same_upd hp)) (s1.free hp) ?_⟩
      have e : (Uw79.step l (.count x)).2 = [((if x < h.first then 0 else (x - h.first) / h.step + 1 : Nat) : Int)] := by
        show (match Uw79.heaps l with | none => [0] | some h => [(Uw79.countTo h x : Int)]) = _
        rw [eh]
        rfl
      rw [upd_same]
      show _ = some (HO.lst ((Uw79.step l (.count x)).2.map V.int))
      rw [e]
      rfl
theorem scRichest : FnScope ["self", "bound", "index", "going", "taken", "place"] ["self", "bound", "index"] (defScope sRichest) := ⟨rfl, rfl, rfl, by decide +kernel, rfl, by decide +kernel, by decide +kernel⟩
theorem ok_richest {f : Addr} {fd : FuncData} (F : Fun K "richest" "Night.richest" sRichest f fd) (T : Txt K mg C D) (TB : TxtB K mg B) (GG : MethOk P w K mg base D "going_heaps" 4 ["self"] (spGoing B C D))
    (GN : MethOk P w K mg base B "number" 1 ["self", "place"] (spNumber B)) (GF : MethOk P w K mg base B "place_from" 2 ["self", "bound"] (spPlaceFrom B)) (GT : MethOk P w K mg base D "taken_of" 3 ["self", "heap"] (spTakenOf C D))
    (GR : DefOk P w K mg base "row_through" 3 ["first", "second"] (spRowThrough B)) : FnOk P w K mg base CX0 5 f fd ["self", "bound", "index"] (spAsk2 C D fun l x i => (Uw79.step l (.richest x i)).2) := by
  obtain ⟨fg, fdg, GG, bG, mG⟩ := GG
  obtain ⟨fn, fdn, GN, bN, mN⟩ := GN
  obtain ⟨ff, fdf, GF, bF, mF⟩ := GF
  obtain ⟨ft, fdt, GT, bT, mT⟩ := GT
  obtain ⟨fr, fdr, GR, bR, mR, kR⟩ := GR
  obtain ⟨t1, c1⟩ := TB.cNoHeap
  obtain ⟨t2, c2⟩ := T.cWrong
  obtain ⟨t3, c3⟩ := TB.cNever
  refine F.ok scRichest (fun vs H Q E h => ?_) (fun cdv A outer s H vs Q E hr h => ?_)
  · obtain ⟨n, la, l, x, i, rfl, _⟩ := h
    rfl
  · obtain ⟨n, la, l, x, i, rfl, hx, N, ok, k⟩ := h
    obtain ⟨⟨dx, hn⟩, as, S⟩ := id N
    have hr1 : Room 1 _ := hr.mono (by decide)
    have hr2 : Room 2 _ := hr.mono (by decide)
    have hr3 : Room 3 _ := hr.mono (by decide)
    refine ⟨_, pss_cons (ps_if (pt_cmpR op_ge (pv 2) (pe_callB call_len_seq (by rfl) T.len PySem.boot_len (pa_cons (pe_fld (pv 0) rfl) pa_nil)) (nomark _)) (pss_one (ps_ret (pe_lst (pa_cons (pe_glob (v := .int (-1)) rfl c2 ⟨t2, rfl⟩) pa_nil)))) pss_nil)
      (pss_cons (ps_set (i := 3) scRichest.nd rfl (Or.inl rfl) (pe_meth0 (pv 0) T.clD mG GG hr bG .nil pass0))
      (pss_cons (ps_if (pt_cmp (pc_isN (pv 3))) (pss_one (ps_ret (pe_lst (pa_cons (pe_glob (v := .int (-6)) rfl c1 ⟨t1, rfl⟩) pa_nil)))) pss_nil)
      (pss_cons (ps_set (i := 4) scRichest.nd rfl (Or.inl rfl) (pe_call GR hr3 rfl mR kR bR .nil pass0 (pa_cons (pe_ix ix_list (pe_meth (pv 0) T.clD mT GT hr3 bT .nil pass0 (pa_cons (pe_fld (pv 3) rfl) pa_nil)) (pv 2) (fun _ _ => rfl))
        (pa_cons (pe_ix ix_list (pe_meth (pv 0) T.clD mT GT hr3 bT .nil pass0 (pa_cons (pe_meth (pv 3) TB.cl mN GN hr1 bN .nil pass0 (pa_cons pe_int pa_nil)) pa_nil)) (pv 2) (fun _ _ => rfl)) pa_nil))))
      (pss_cons (ps_set (i := 5) scRichest.nd rfl (Or.inl rfl) (pe_meth (pv 4) TB.cl mF GF hr2 bF .nil pass0 (pa_cons (pv 1) pa_nil)))
      (pss_cons (ps_if (pt_cmp (pc_isN (pv 5))) (pss_one (ps_ret (pe_lst (pa_cons (pe_glob (v := .int (-4)) rfl c3 ⟨t3, rfl⟩) pa_nil)))) pss_nil)
      (pss_one (ps_ret (pe_lst (pa_cons (pe_meth (pv 3) TB.cl mN GN hr1 bN .nil pass0 (pa_cons (pv 5) pa_nil)) pa_nil))))))))), ?_⟩
    refine ⟨_, rfl, _, rfl, n, D, dx, _, _, rfl, hn, T.clD, T.nShares, nf_shares la, la, _, rfl, .inl (SqL.of S.lst), _, _, rfl, rfl, _, rfl, ite2 (fun h1 => ?_) fun h1 => ?_⟩
    · have h2 : l.length ≤ i := by
        have := of_decide_eq_true h1
        rw [List.length_map, S.len] at this
        omega
      refine ⟨(by show 1 ≤ sizeLine; decide), fun p hp => k _ p (same_upd hp) hp ?_⟩
      have e : (Uw79.step l (.richest x i)).2 = [-1] := by
        show (if l.length ≤ i then [-1] else _) = _
        rw [if_pos h2]
      rw [upd_same]
      show _ = some (HO.lst ((Uw79.step l (.richest x i)).2.map V.int))
      rw [e]
      rfl
    · have h2 : ¬ l.length ≤ i := fun q => h1 (decide_eq_true (by rw [List.length_map, S.len]; omega))
      refine ⟨_, rfl, n, dx, _, rfl, hn, nf_no la (by decide +kernel), n, la, l, rfl, N, ok, fun eh H1 s1 => ?_, fun h eh H1 g G1 s1 hg => ?_⟩
      · refine ⟨_, rfl, _, rfl, isN ⟨(by show 1 ≤ sizeLine; decide), fun p hp => k _ p (s1.trans (same_upd hp)) (s1.free hp) ?_⟩⟩
        have e : (Uw79.step l (.richest x i)).2 = [-6] := by
          show (if l.length ≤ i then [-1] else match Uw79.heaps l with | none => [-6] | some h => _) = _
          rw [if_neg h2, eh]
        rw [upd_same]
        show _ = some (HO.lst ((Uw79.step l (.richest x i)).2.map V.int))
        rw [e]
        rfl
      · obtain ⟨dg, eg⟩ := id G1
        obtain ⟨b1, b2, b3, b4⟩ := Uwm.bounds ok.1 ok.2 eh
        have I := (Uwm.heaps_inv l ok.1).1 h eh
        have N1 := N.same s1
        refine ⟨_, rfl, _, rfl, notN ?_⟩
        have l0 : (Uw79.takes l h.first).length = l.length := Uwm.takes_len l _ I.go_first
        have l1 : (Uw79.takes l (h.first + h.step)).length = l.length := Uwm.takes_len l _ I.go_next
        have mono := Uwm.takenOf_eq ok.1 eh i
        have hb1 : (Uw79.takes l (h.first + h.step)).getD i 0 ≤ h.first + h.step := by
          rw [List.getD_eq_getElem?_getD, List.getElem?_eq_getElem (by omega)]
          exact Uwm.taken_le l _ _ ok.1 (List.getElem_mem _)
        have er : (Uw79.step l (.richest x i)).2 = (let a := Uw79.takenOf l h i
            if x ≤ a.1 then [(h.first : Int)] else if a.2 = 0 then [-4] else [((h.first + (x - a.1 + a.2 - 1) / a.2 * h.step : Nat) : Int)]) := by
          show (if l.length ≤ i then [-1] else match Uw79.heaps l with | none => [-6] | some h => _) = _
          rw [if_neg h2, eh]
        unfold Uw79.takenOf at er
        dsimp only at er
        generalize ha0 : (Uw79.takes l h.first).getD i 0 = a0 at er mono
        generalize ha1 : (Uw79.takes l (h.first + h.step)).getD i 0 = a1 at er mono hb1
        refine ⟨_, rfl, n, dx, _, rfl, s1 _ _ hn, nf_no la (by decide +kernel), _, rfl, g, B, dg, _, _, rfl, eg, TB.cl, TB.nFirst, rowf_first _ _, n, la, l, h.first, rfl, N1, ok, fun H2 q2 s2 hq2 e2 => ?_⟩
        have N2 := N1.same s2
        have G2 := G1.same s2
        obtain ⟨dg2, eg2⟩ := id G2
        refine ⟨_, rfl, q2, _, _, _, rfl, rfl, SqL.of e2, at_of (j := i) rfl (at_nat (by omega)), ?_⟩
        refine ⟨_, rfl, n, dx, _, rfl, s2 _ _ (s1 _ _ hn), nf_no la (by decide +kernel), _, rfl, g, dg2, _, rfl, eg2, rowf_no _ _ (by decide +kernel) (by decide +kernel), g, h.first, h.step, 1, rfl, G2, by omega, n, la, l, h.first + 1 * h.step, rfl, N2, ok, fun H3 q3 s3 hq3 e3 => ?_⟩
        rw [Nat.one_mul] at e3
        have G3 := G2.same s3
        refine ⟨_, rfl, q3, _, _, _, rfl, rfl, SqL.of e3, at_of (j := i) rfl (at_nat (by omega)), ?_⟩
        rw [ha0, ha1]
        refine ⟨a0, a1, rfl, mono, fun H4 r4 R4 s4 hr4 => ?_⟩
        obtain ⟨d4, e4⟩ := id R4
        have G4 := G3.same s4
        obtain ⟨dg4, eg4⟩ := id G4
        have sAll := ((s1.trans s2).trans s3).trans s4
        refine ⟨_, rfl, r4, d4, _, rfl, e4, rowf_no _ _ (by decide +kernel) (by decide +kernel), _, rfl, r4, a0, a1 - a0, x, rfl, R4, by omega, ?_⟩
        have num : ∀ (v : Nat) (r : List Int), (Uw79.step l (.richest x i)).2 = [((h.first + v * h.step : Nat) : Int)] → ∀ p, H4 p = none → Q (.ref p) (upd H4 p (.lst [V.int ((h.first + v * h.step : Nat) : Int)])) := fun v r e p hp => by
          refine k _ p (sAll.trans (same_upd hp)) (sAll.free hp) ?_
          rw [upd_same]
          show _ = some (HO.lst ((Uw79.step l (.richest x i)).2.map V.int))
          rw [e]
          rfl
        by_cases q1 : x ≤ a0
        · have ev : placeV a0 (a1 - a0) x = .int ((0 : Nat) : Int) := if_pos q1
          rw [ev]
          refine ⟨_, rfl, _, rfl, notNi ?_⟩
          refine ⟨_, rfl, g, dg4, _, rfl, eg4, rowf_no _ _ (by decide +kernel) (by decide +kernel), _, rfl, g, h.first, h.step, 0, rfl, G4, by omega, (by show 1 ≤ sizeLine; decide), fun p hp => num 0 [] ?_ p hp⟩
          rw [er, if_pos q1, Nat.zero_mul, Nat.add_zero]
        · by_cases q2 : a1 - a0 = 0
          · have ev : placeV a0 (a1 - a0) x = .non := by
              unfold placeV
              rw [if_neg q1, if_pos q2]
            rw [ev]
            refine ⟨_, rfl, _, rfl, isN ⟨(by show 1 ≤ sizeLine; decide), fun p hp => k _ p (sAll.trans (same_upd hp)) (sAll.free hp) ?_⟩⟩
            rw [upd_same]
            show _ = some (HO.lst ((Uw79.step l (.richest x i)).2.map V.int))
            rw [er, if_neg q1, if_pos q2]
            rfl
          · have ev : placeV a0 (a1 - a0) x = .int (((x - a0 + (a1 - a0) - 1) / (a1 - a0) : Nat) : Int) := by
              unfold placeV
              rw [if_neg q1, if_neg q2]
            rw [ev]
            refine ⟨_, rfl, _, rfl, notNi ?_⟩
            refine ⟨_, rfl, g, dg4, _, rfl, eg4, rowf_no _ _ (by decide +kernel) (by decide +kernel), _, rfl, g, h.first, h.step, _, rfl, G4, by omega, (by show 1 ≤ sizeLine; decide), fun p hp => num _ [] ?_ p hp⟩
            rw [er, if_neg q1, if_neg q2]
end
end Uwp

end

section
set_option Elab.async false
set_option linter.all false
set_option maxRecDepth 100000
set_option maxHeartbeats 4000000
namespace Uwp
open PySem PySem.Spec PyProof.Rows L2
open PySem.W (Codec)
theorem boot_anyU : bootBuiltins "any" = some (.builtin "any") := by decide +kernel
section
variable {P : Program} {w : World} {K : PySem.W.Frag} {mg : Str → Option Value} {base : Heap} {B C D : Addr}
theorem scLast : FnScope ["self", "divisor", "going", "left", "leaves"] ["self", "divisor"] (defScope sLast) := ⟨rfl, rfl, rfl, by decide +kernel, rfl, by decide +kernel, by decide +kernel⟩
theorem ok_last {f : Addr} {fd : FuncData} (F : Fun K "last" "Night.last" sLast f fd) (T : Txt K mg C D) (TB : TxtB K mg B) (GG : MethOk P w K mg base D "going_heaps" 4 ["self"] (spGoing B C D))
    (GN : MethOk P w K mg base B "number" 1 ["self", "place"] (spNumber B)) (GL : MethOk P w K mg base D "left_of" 4 ["self", "heap"] (spLeftOf C D)) (GV : MethOk P w K mg base B "leaves" 2 ["self", "divisor"] (spLeaves B))
    (GR : DefOk P w K mg base "row_through" 3 ["first", "second"] (spRowThrough B)) : FnOk P w K mg base CX0 5 f fd ["self", "divisor"] (spAsk1 C D fun l m => (Uw79.step l (.last m)).2) := by
  obtain ⟨fg, fdg, GG, bG, mG⟩ := GG
  obtain ⟨fn, fdn, GN, bN, mN⟩ := GN
  obtain ⟨fl, fdl, GL, bL, mL⟩ := GL
  obtain ⟨fv, fdv, GV, bV, mV⟩ := GV
  obtain ⟨fr, fdr, GR, bR, mR, kR⟩ := GR
  obtain ⟨t1, c1⟩ := TB.cNoHeap
  obtain ⟨t2, c2⟩ := T.cWrong
  obtain ⟨t3, c3⟩ := TB.cLeastDiv
  obtain ⟨t4, c4⟩ := TB.cMostDiv
  refine F.ok scLast (fun vs H Q E h => ?_) (fun cdv A outer s H vs Q E hr h => ?_)
  · obtain ⟨n, la, l, m, rfl, _⟩ := h
    rfl
  · obtain ⟨n, la, l, m, rfl, hx, N, ok, k⟩ := h
    obtain ⟨⟨dx, hn⟩, as, S⟩ := id N
    have hr1 : Room 1 _ := hr.mono (by decide)
    have hr2 : Room 2 _ := hr.mono (by decide)
    have hr3 : Room 3 _ := hr.mono (by decide)
    refine ⟨_, pss_cons (ps_if (pt_not (pt_chain op_le op_le (pe_glob (v := .int 1) rfl c3 ⟨t3, rfl⟩) (pv 1) (pe_glob (v := .int 20) rfl c4 ⟨t4, rfl⟩))) (pss_one (ps_ret (pe_lst (pa_cons (pe_glob (v := .int (-1)) rfl c2 ⟨t2, rfl⟩) pa_nil)))) pss_nil)
      (pss_cons (ps_set (i := 2) scLast.nd rfl (Or.inl rfl) (pe_meth0 (pv 0) T.clD mG GG hr bG .nil pass0))
      (pss_cons (ps_if (pt_cmp (pc_isN (pv 2))) (pss_one (ps_ret (pe_lst (pa_cons (pe_glob (v := .int (-6)) rfl c1 ⟨t1, rfl⟩) pa_nil)))) pss_nil)
      (pss_cons (ps_set (i := 3) scLast.nd rfl (Or.inl rfl) (pe_call GR hr3 rfl mR kR bR .nil pass0 (pa_cons (pe_meth (pv 0) T.clD mL GL hr bL .nil pass0 (pa_cons (pe_fld (pv 2) rfl) pa_nil))
        (pa_cons (pe_meth (pv 0) T.clD mL GL hr bL .nil pass0 (pa_cons (pe_meth (pv 2) TB.cl mN GN hr1 bN .nil pass0 (pa_cons pe_int pa_nil)) pa_nil)) pa_nil))))
      (pss_cons (ps_set (i := 4) scLast.nd rfl (Or.inl rfl) (pe_meth (pv 3) TB.cl mV GV hr2 bV .nil pass0 (pa_cons (pv 1) pa_nil)))
      (pss_one (ps_ret (pe_op op_cat (pe_lst (pa_cons (pe_callB call_len_seq (by rfl) T.len PySem.boot_len (pa_cons (pv 4) pa_nil)) pa_nil)) (pv 4)))))))), ?_⟩
    have wrong : (m < 1 ∨ 20 < m) → ∀ p, H p = none → Q (.ref p) (upd H p (.lst [V.int (-1)])) := fun hw p hp => by
      refine k _ p (same_upd hp) hp ?_
      have e : (Uw79.step l (.last m)).2 = [-1] := by
        show (if m < 1 ∨ 20 < m then (l, [-1]) else _).2 = _
        rw [if_pos hw]
      rw [upd_same]
      show _ = some (HO.lst ((Uw79.step l (.last m)).2.map V.int))
      rw [e]
      rfl
    refine ⟨_, rfl, _, _, rfl, rfl, _, rfl, ite2 (fun h1 => ?_) fun h1 => ?_⟩
    · have h1 : (1 : Int) ≤ (m : Int) := of_decide_eq_true h1
      refine ⟨_, _, rfl, rfl, _, rfl, ite2 (fun h2 => ?_) fun h2 => ?_⟩
      · have h3 : 20 < m := by
          have q := of_decide_eq_false ((Bool.not_eq_true' _).mp h2)
          omega
        exact ⟨(by show 1 ≤ sizeLine; decide), fun p hp => wrong (.inr h3) p hp⟩
      · have h3 : m ≤ 20 := by
          rcases Nat.lt_or_ge 20 m with q | q
          · exact absurd ((Bool.not_eq_true' _).mpr (decide_eq_false (by omega))) h2
          · exact q
        have hnw : ¬ (m < 1 ∨ 20 < m) := by omega
        refine ⟨_, rfl, n, dx, _, rfl, hn, nf_no la (by decide +kernel), n, la, l, rfl, N, ok, fun eh H1 s1 => ?_, fun h eh H1 g G1 s1 hg => ?_⟩
        · refine ⟨_, rfl, _, rfl, isN ⟨(by show 1 ≤ sizeLine; decide), fun p hp => k _ p (s1.trans (same_upd hp)) (s1.free hp) ?_⟩⟩
          have e : (Uw79.step l (.last m)).2 = [-6] := by
            show (if m < 1 ∨ 20 < m then (l, [-1]) else Uw79.onHeaps l fun h => Uw79.counted (Uw79.lasts h m)).2 = _
            rw [if_neg hnw]
            unfold Uw79.onHeaps
            rw [eh]
          rw [upd_same]
          show _ = some (HO.lst ((Uw79.step l (.last m)).2.map V.int))
          rw [e]
          rfl
        · obtain ⟨dg, eg⟩ := id G1
          obtain ⟨b1, b2, b3, b4⟩ := Uwm.bounds ok.1 ok.2 eh
          have I := (Uwm.heaps_inv l ok.1).1 h eh
          have N1 := N.same s1
          have e : (Uw79.step l (.last m)).2 = Uw79.counted (Uw79.lasts h m) := by
            show (if m < 1 ∨ 20 < m then (l, [-1]) else Uw79.onHeaps l fun h => Uw79.counted (Uw79.lasts h m)).2 = _
            rw [if_neg hnw]
            unfold Uw79.onHeaps
            rw [eh]
          refine ⟨_, rfl, _, rfl, notN ?_⟩
          refine ⟨_, rfl, n, dx, _, rfl, s1 _ _ hn, nf_no la (by decide +kernel), _, rfl, g, B, dg, _, _, rfl, eg, TB.cl, TB.nFirst, rowf_first _ _, n, la, l, h.first, rfl, N1, ok, I.go_first, fun H2 s2 => ?_⟩
          have N2 := N1.same s2
          have G2 := G1.same s2
          obtain ⟨dg2, eg2⟩ := id G2
          have gn : Uwm.Go l (h.first + 1 * h.step) := by rw [Nat.one_mul]; exact I.go_next
          refine ⟨_, rfl, n, dx, _, rfl, s2 _ _ (s1 _ _ hn), nf_no la (by decide +kernel), _, rfl, g, dg2, _, rfl, eg2, rowf_no _ _ (by decide +kernel) (by decide +kernel), g, h.first, h.step, 1, rfl, G2, by omega, n, la, l, h.first + 1 * h.step, rfl, N2, ok, gn, fun H3 s3 => ?_⟩
          rw [Nat.one_mul, I.rest_first, I.rest_next]
          refine ⟨h.rest, h.rest + h.more, rfl, by omega, fun H4 r4 R4 s4 hr4 => ?_⟩
          rw [Nat.add_sub_cancel_left] at R4
          obtain ⟨d4, e4⟩ := id R4
          refine ⟨_, rfl, r4, d4, _, rfl, e4, rowf_no _ _ (by decide +kernel) (by decide +kernel), _, rfl, r4, h.rest, h.more, m, rfl, R4, by omega, by omega, h3, fun ks H5 q5 c1 c2 c3 s5 hq5 e5 => ?_⟩
          have eks : ks = Uw79.lasts h m := by
            refine Uwm.rising_uniq c1 (Uwm.lasts_rising h m) fun v => ?_
            rw [c2, Uwm.mem_lasts (by omega)]
            constructor
            · rintro ⟨kk, _, q⟩
              exact ⟨kk, by rw [Nat.mul_comm]; exact q⟩
            · rintro ⟨kk, q⟩
              refine ⟨kk % m, Nat.mod_lt _ (by omega), ?_⟩
              rw [Nat.mul_comm, ← Uwm.lin_red]
              exact q
          subst eks
          have sAll := (((s1.trans s2).trans s3).trans s4).trans s5
          refine ⟨_, rfl, q5, _, rfl, .inl (SqL.of e5), (by show 1 ≤ sizeLine; decide), fun p hp => ?_⟩
          have sp : Same H5 (upd H5 p (.lst [V.int (((Uw79.ints (Uw79.lasts h m)).map V.int).length : Int)])) := same_upd hp
          refine ⟨_, rfl, p, q5, _, _, rfl, rfl, upd_same, sp _ _ e5, ?_, fun r hr' => ?_⟩
          · refine Nat.le_of_lt (small1000 ?_)
            rw [ints_len]
            show 1 + _ ≤ 1000
            omega
          · refine k _ r ((sAll.trans sp).trans (same_upd hr')) ((sAll.trans sp).free hr') ?_
            rw [upd_same]
            show _ = some (HO.lst ((Uw79.step l (.last m)).2.map V.int))
            rw [e, ints_len]
            rfl
    · have h2 : m < 1 := by
        rcases Nat.lt_or_ge m 1 with q | q
        · exact q
        · exact absurd (decide_eq_true (by omega)) h1
      exact ⟨_, rfl, iteT ⟨(by show 1 ≤ sizeLine; decide), fun p hp => wrong (.inl h2) p hp⟩⟩
theorem scBack : FnScope ["self", "left", "heap", "share"] ["self", "left"] (defScope sBack) := ⟨rfl, rfl, rfl, by decide +kernel, rfl, by decide +kernel, by decide +kernel⟩
theorem bkBack : BlkOk ["self", "left", "heap", "share"] (defScope sBack) (lcS [(".0", .local), ("share", .local)]) [("share", 3)] := blkOk_by (by decide +kernel)
theorem ok_back {f : Addr} {fd : FuncData} (F : Fun K "back" "Night.back" sBack f fd) (T : Txt K mg C D) (TB : TxtB K mg B) (GA : MethOk P w K mg base C "takes_all" 1 ["self"] (spTakesAll C))
    (GH : MethOk P w K mg base C "heap_ahead" 1 ["self", "rest"] (spHeapAhead C)) : FnOk P w K mg base CX0 2 f fd ["self", "left"] (spAsk1 C D fun l y => (Uw79.step l (.back y)).2) := by
  obtain ⟨fa, fda, GA, bA, mA⟩ := GA
  obtain ⟨fh, fdh, GH, bH, mH⟩ := GH
  obtain ⟨t1, c1⟩ := TB.cNoHeap
  obtain ⟨t2, c2⟩ := TB.cAllTaken
  refine F.ok scBack (fun vs H Q E h => ?_) (fun cdv A outer s H vs Q E hr h => ?_)
  · obtain ⟨n, la, l, x, rfl, _⟩ := h
    rfl
  · obtain ⟨n, la, l, y, rfl, hx, N, ok, k⟩ := h
    obtain ⟨⟨dx, hn⟩, as, S⟩ := id N
    refine ⟨_, pss_cons (ps_if (pt_val (pe_callB (cr_any rfl) (by rfl) TB.any boot_anyU (pa_cons (pe_lc (own := [("share", 3)]) (te := tMeth C "takes_all" (spTakesAll C) [] E0 (tVar 3) tNil) rfl scBack.nd (pi_list (pe_fld (pv 0) rfl)) bkBack
        (fun _ _ _ _ _ => pg_name (i := 3) scBack.nd rfl (Or.inl rfl)) (fun _ _ _ _ _ => pts_nil) (fun _ _ _ _ _ => pe_meth0 (pv 3) T.clC mA GA hr bA .nil pass0)) pa_nil))) (pss_one (ps_ret (pe_lst (pa_cons (pe_glob (v := .int (-7)) rfl c2 ⟨t2, rfl⟩) pa_nil)))) pss_nil)
      (pss_cons (ps_set (i := 2) scBack.nd rfl (Or.inl rfl) (pv 1))
      (pss_cons (ps_for PassesOwn.never rfl (pi_reversed rfl TB.reversed (pa_cons (pe_fld (pv 0) rfl) pa_nil)) (pg_name (i := 3) scBack.nd rfl (Or.inl rfl))
        (pss_cons (ps_set (i := 2) scBack.nd rfl (Or.inl rfl) (pe_meth (pv 3) T.clC mH GH hr bH .nil pass0 (pa_cons (pv 2) pa_nil)))
        (pss_one (ps_if (pt_cmp (pc_isN (pv 2))) (pss_one (ps_ret (pe_lst (pa_cons (pe_glob (v := .int (-6)) rfl c1 ⟨t1, rfl⟩) pa_nil)))) pss_nil))))
      (pss_one (ps_ret (pe_lst (pa_cons (pv 2) pa_nil)))))), ?_⟩
    refine ⟨_, rfl, n, D, dx, _, _, rfl, hn, T.clD, T.nShares, nf_shares la, la, rfl, ⟨_, SqL.of S.lst⟩, fun M hM => ?_⟩
    have sM : Same H (upd H M (.lst [])) := same_upd hM
    refine lc_list (K := K) (a := la) (xs := as.map V.ref)
      (fun i H' => H' M = some (.lst (((l.map fun s => decide (s.t = s.p)).take i).map V.bl)) ∧ Same H H') ⟨upd_same, sM⟩ (fun i H' _ ⟨_, s2⟩ => SqL.of (s2 _ _ S.lst)) ?_ ?_
    · rintro i z H' hi ⟨hM', s2⟩
      obtain ⟨a, sh, ha, hs, rfl, A1⟩ := (S.same s2).get hi
      obtain ⟨da, ea⟩ := id A1
      refine ⟨rfl, tyes ?_⟩
      refine ⟨_, rfl, a, da, _, rfl, ea, shf_no sh (by decide +kernel) (by decide +kernel) (by decide +kernel), a, sh, rfl, A1, _, hM', ?_, ?_, fun b o e => ?_⟩
      · refine small1000 ?_
        rw [List.length_map, List.length_take, List.length_map]
        have h5 := ok.2
        omega
      · have hg : (l.map fun s => decide (s.t = s.p))[i]? = some (decide (sh.t = sh.p)) := by rw [List.getElem?_map, hs]; rfl
        rw [upd_same, map_take_snoc V.bl hg]
      · rw [upd_ne (ne_of_none e hM)]
        exact s2 b o e
    · rintro H2 ⟨hM', s2⟩
      have el : (l.map fun s => decide (s.t = s.p)).take (as.map V.ref).length = l.map fun s => decide (s.t = s.p) := by
        refine List.take_of_length_le ?_
        rw [List.length_map, List.length_map, S.len]
        exact Nat.le_refl _
      rw [el] at hM'
      have S2 := S.same s2
      refine ⟨M, _, rfl, SqL.of hM', _, rfl, ite2 (fun h1 => ?_) fun h1 => ?_⟩
      · refine ⟨(by show 1 ≤ sizeLine; decide), fun p hp => k _ p (s2.trans (same_upd hp)) (s2.free hp) ?_⟩
        have e0 : l.any (fun s => s.t == s.p) = true := by
          rw [List.any_map, List.any_eq_true] at h1
          obtain ⟨z, hz, q⟩ := h1
          rw [List.any_eq_true]
          exact ⟨z, hz, by simpa using q⟩
        have e : (Uw79.step l (.back y)).2 = [-7] := by
          show (if l.any (fun s => s.t == s.p) = true then [-7] else _) = _
          rw [if_pos e0]
        rw [upd_same]
        show _ = some (HO.lst ((Uw79.step l (.back y)).2.map V.int))
        rw [e]
        rfl
      · have hall : ∀ z ∈ l, z.t ≠ z.p := fun z hz q => h1 (by
          rw [List.any_map, List.any_eq_true]
          exact ⟨z, hz, by simpa using q⟩)
        have e0 : ¬ l.any (fun s => s.t == s.p) = true := fun q => by
          rw [List.any_eq_true] at q
          obtain ⟨z, hz, q⟩ := q
          exact hall z hz (by simpa using q)
        have er : (Uw79.step l (.back y)).2 = (match Uw79.back l y with | none => [-6] | some x => [(x : Int)]) := by
          show (if l.any (fun s => s.t == s.p) = true then [-7] else match Uw79.back l y with | none => [-6] | some x => [(x : Int)]) = _
          rw [if_neg e0]
        have hlen : (as.map V.ref).length = l.length := by rw [List.length_map, S.len]
        refine ⟨_, rfl, _, rfl, n, D, dx, _, _, rfl, s2 _ _ hn, T.clD, T.nShares, nf_shares la, la, as.map V.ref, rfl, SqL.of S2.lst, for_rev (K := K) (a := la) (xs := as.map V.ref)
          (fun i σ H' => ∃ (z : Nat) (v3 : Option V), σ = [some (.ref n), some (.int (y : Int)), some (.int (z : Int)), v3] ∧ Uw79.back (l.drop (l.length - i)) y = some z ∧ H' = H2) ⟨y, none, rfl, ?_, rfl⟩ (fun i σ H' _ ⟨_, _, _, _, e⟩ => by rw [e]; exact SqL.of S2.lst) ?_ ?_⟩
        · rw [Nat.sub_zero, List.drop_length]
          rfl
        · rintro i v σ H3 hi hv ⟨z, v3, rfl, eb, rfl⟩
          rw [hlen] at hi hv
          obtain ⟨a, sh, ha, hs, rfl, A1⟩ := S2.get hv
          obtain ⟨da, ea⟩ := id A1
          have gs : Uwm.GoodS sh := ok.1 sh (List.mem_of_getElem? hs)
          have hlt : sh.t < sh.p := by
            have := hall sh (List.mem_of_getElem? hs)
            have := gs.2.2.2.2
            omega
          refine ⟨_, rfl, a, da, _, rfl, ea, shf_no sh (by decide +kernel) (by decide +kernel) (by decide +kernel), _, rfl, a, sh, z, rfl, A1, gs, hlt, ?_⟩
          have ed := Uwm.back_drop hs y
          have ej : l.length - 1 - i + 1 = l.length - i := by omega
          rw [ej, eb] at ed
          have ed2 : Uw79.back (l.drop (l.length - 1 - i)) y = aheadV sh z := ed
          have ej2 : l.length - (i + 1) = l.length - 1 - i := by omega
          cases ev : aheadV sh z with
          | none =>
            rw [ev] at ed2
            refine ⟨_, rfl, _, rfl, isN ⟨(by show 1 ≤ sizeLine; decide), fun p hp => k _ p (s2.trans (same_upd hp)) (s2.free hp) ?_⟩⟩
            rw [upd_same]
            show _ = some (HO.lst ((Uw79.step l (.back y)).2.map V.int))
            rw [er, Uwm.back_none _ ed2]
            rfl
          | some z2 =>
            rw [ev] at ed2
            refine ⟨_, rfl, _, rfl, notNi ⟨z2, some (.ref a), rfl, ?_, rfl⟩⟩
            rw [ej2]
            exact ed2
        · rintro σ H3 ⟨z, v3, rfl, eb, rfl⟩
          rw [hlen, Nat.sub_self, List.drop_zero] at eb
          refine ⟨_, rfl, (by show 1 ≤ sizeLine; decide), fun p hp => k _ p (s2.trans (same_upd hp)) (s2.free hp) ?_⟩
          rw [upd_same]
          show _ = some (HO.lst ((Uw79.step l (.back y)).2.map V.int))
          rw [er, eb]
          rfl
end
end Uwp

end

section
set_option Elab.async false
set_option linter.all false
set_option maxRecDepth 100000
set_option maxHeartbeats 4000000
namespace Uwp
open PySem PySem.Spec PyProof.Rows L2
open PySem.W (Codec)
/-- one call of the list -/
def spCall (C D : Addr) : Sp := fun vs H Q _ => ∃ (n la r : Addr) (l : Uw79.Night) (j : Int) (as : List Int) (c : Uw79.Call), vs = [.ref n, .int j, .ref r] ∧ Uwm.Told j as c ∧ H r = some (.lst (as.map V.int)) ∧ r ≠ la ∧ NightAt C D H n la l ∧ Uwm.Ok l ∧ Res C D H n la (Uw79.step l c) Q
def spAnswers (K : PySem.W.Frag) : Sp := fun vs H Q _ => ∃ (a : Addr) (ns : List Int), vs = [.ref a] ∧ SqL K H a (ns.map V.int) ∧ (∀ z ∈ ns, 0 ≤ z ∧ z ≤ 4294967295) ∧ PyUw79.answers_asked ns = true ∧
  ∀ (H' : Hp) (p : Addr), H' p = some (.lst ((PyUw79.answers ns).map V.int)) → Q (.ref p) H'
/-- how many numbers stand behind a call's own -/
def behindV : List V := Uwm.behind.map fun (n : Nat) => V.int (n : Int)
theorem NightAt.put {C D : Addr} {H : Hp} {n la q : Addr} {l : Uw79.Night} {xs ys : List V} (N : NightAt C D H n la l) (hq : H q = some (.lst xs)) (ne : q ≠ la) : NightAt C D (upd H q (.lst ys)) n la l := by
  obtain ⟨⟨dx, hn⟩, as, S⟩ := N
  refine ⟨⟨dx, ?_⟩, as, ?_, S.len, fun j a s h1 h2 => ?_⟩
  · rw [upd_ne (ne_of hn hq (by intro z; cases z))]
    exact hn
  · rw [upd_ne ne.symm]
    exact S.lst
  · have A1 := S.at_ j a s h1 h2
    refine A1.keep fun o e => ?_
    obtain ⟨da, ea⟩ := A1
    rw [upd_ne (ne_of ea hq (by intro z; cases z))]
    exact e
theorem cut_ints {ns : List Int} {i m : Nat} (h : i + 1 + m ≤ ns.length) : cutV (ns.map V.int) (some ((i : Int) + 1)) (some ((i : Int) + 1 + (m : Int))) = ((ns.drop (i + 1)).take m).map V.int := by
  have e1 : ((i : Int) + 1) = ((i + 1 : Nat) : Int) := by omega
  have e2 : ((i : Int) + 1 + (m : Int)) = ((i + 1 + m : Nat) : Int) := by omega
  unfold cutV
  rw [e2, e1, HT.sIx_nat, HT.sIx_nat, List.length_map, Nat.min_eq_left h, Nat.min_eq_left (show i + 1 ≤ ns.length by omega), Nat.add_sub_cancel_left, List.map_take, List.map_drop]
def left_of (n : Nat) : Option (Option V) → Nat
  | some (some (V.int z)) => n - z.toNat
  | _ => 0
section
variable {P : Program} {w : World} {K : PySem.W.Frag} {mg : Str → Option Value} {base : Heap} {C D : Addr}
theorem scAnswers : FnScope ["calls", "night", "answered", "place", "call", "behind", "answer"] ["calls"] (defScope sAnswers) := ⟨rfl, rfl, rfl, by decide +kernel, rfl, by decide +kernel, by decide +kernel⟩
theorem ok_answers {f nb : Addr} {fd : FuncData} (F : Fun K "answers" "answers" sAnswers f fd) (T : Txt K mg C D) (GN : MakeOk P w K mg base D 1 ["self"] (spNInit C D))
    (GC : DefOk P w K mg base "answer_call" 6 ["night", "call", "numbers"] (spCall C D)) (cB : mg "NUMBERS_BEHIND" = some (.ref nb)) (hB : ∀ H : Hp, SqT K H nb behindV) : FnOk P w K mg base CX0 7 f fd ["calls"] (spAnswers K) := by
  obtain ⟨fn, fdn, GN, bN, MN⟩ := GN
  obtain ⟨fc, fdc, GC, bC, mC, kC⟩ := GC
  refine F.ok scAnswers (fun vs H Q E h => ?_) (fun cdv A outer s H vs Q E hr h => ?_)
  · obtain ⟨a, ns, rfl, _⟩ := h
    rfl
  · obtain ⟨a, ns, rfl, hS, hb, hask, k⟩ := h
    have hr2 : Room 2 _ := hr.mono (by decide)
    refine ⟨_, pss_cons (ps_set (i := 1) scAnswers.nd rfl (Or.inl rfl) (pe_make0 MN GN hr2 rfl T.mgD bN .nil pass0))
      (pss_cons (ps_set (i := 2) scAnswers.nd rfl (Or.inl rfl) (pe_lst pa_nil))
      (pss_cons (ps_set (i := 3) scAnswers.nd rfl (Or.inl rfl) pe_int)
      (pss_cons (ps_while PassesOwn.never (pt_cmpR op_lt (pv 3) (pe_callB call_len_seq (by rfl) T.len PySem.boot_len (pa_cons (pv 0) pa_nil)) (nomark _))
        (pss_cons (ps_set (i := 4) scAnswers.nd rfl (Or.inl rfl) (pe_ix ix_list (pv 0) (pv 3) (fun _ _ => rfl)))
        (pss_cons (ps_set (i := 5) scAnswers.nd rfl (Or.inl rfl) (pe_op op_add (pe_op op_add (pv 3) pe_int) (pe_ix ix_tup (pe_glob (v := .ref nb) rfl cB rfl) (pv 4) (fun _ _ => rfl))))
        (pss_cons (ps_set (i := 6) scAnswers.nd rfl (Or.inl rfl) (pe_call GC hr rfl mC kC bC .nil pass0 (pa_cons (pv 1) (pa_cons (pv 4) (pa_cons (pe_slice sl_list (pv 0) (po_some (pe_op op_add (pv 3) pe_int)) (po_some (pv 5))) pa_nil)))))
        (pss_cons (ps_expr (pe_bm PySem.F.plainAttrs_list PySem.F.slot_list_append PySem.F.type_list_append mt_append (pv 2) (pa_cons (pe_callB call_len_seq (by rfl) T.len PySem.boot_len (pa_cons (pv 6) pa_nil)) pa_nil)))
        (pss_cons (ps_expr (pe_bm PySem.F.plainAttrs_list PySem.F.slot_list_extend PySem.F.type_list_extend mt_extend (pv 2) (pa_cons (pv 6) pa_nil)))
        (pss_one (ps_set (i := 3) scAnswers.nd rfl (Or.inl rfl) (pv 5)))))))))
      (pss_one (ps_ret (pv 2)))))), ?_⟩
    -- night = Night(); answered = []; place = 0
    intro n dx nn nd ne
    refine ⟨n, dx, rfl, upd_same, fun la H1 N1 fl kp => ⟨rfl, ?_⟩⟩
    have s0 : Same H (upd (upd H dx (.own n)) n (.ins D dx [])) := fun b o e => by
      rw [upd_ne (ne_of_none e nn), upd_ne (ne_of_none e nd)]
      exact e
    have s1 : Same H H1 := Same.made nn nd kp
    have hla : H la = none := s0.free fl
    refine ⟨Nat.zero_le _, fun q hq => ?_⟩
    have s2 : Same H1 (upd H1 q (.lst [])) := same_upd hq
    have hq0 : H q = none := s1.free hq
    obtain ⟨raw0, hr0, ea, hlen⟩ := Uwm.asked_start hask
    refine while_by (fun σ H' => ∃ (i g : Nat) (raw : List (List (List Int))) (l : Uw79.Night) (lb : Addr) (out : List Int) (v4 v5 v6 : Option V), σ = [some (.ref a), some (.ref n), some (.ref q), some (.int (i : Int)), v4, v5, v6] ∧ i ≤ ns.length ∧
        PyFlat.calls PyUw79.shape g (ns.drop i) = some raw ∧ Uwm.Ok l ∧ NightAt C D H' n lb l ∧ H lb = none ∧ H' q = some (.lst (out.map V.int)) ∧ q ≠ lb ∧ out ++ Uwm.fin l raw = PyUw79.answers ns ∧ Same H H')
      (fun σ _ => left_of ns.length σ[3]?) ?_ ?_ ?_
    · refine ⟨0, ns.length, raw0, [], la, [], none, none, none, rfl, Nat.zero_le _, hr0, ⟨fun s hs => (by cases hs), Nat.zero_le _⟩, N1.same s2, hla, upd_same, ?_, by rw [ea]; rfl, s1.trans s2⟩
      intro e
      obtain ⟨_, as, S⟩ := N1
      rw [e, S.lst] at hq
      cases hq
    · rintro σ H2 ⟨i, g, raw, l, lb, out, v4, v5, v6, rfl, hi, hc, ok, N2, hlb, hq2, nql, hout, s3⟩
      refine ⟨_, rfl, _, rfl, a, _, rfl, .inl (s3.seq hS), _, _, rfl, rfl, _, rfl, ite2 (fun h1 => ?_) fun h1 => ?_⟩
      · have hi' : i < ns.length := by
          have := of_decide_eq_true h1
          rw [List.length_map] at this
          omega
        obtain ⟨g', j, m, raw', c, hj, hm, hle, rfl, hT, hc'⟩ := Uwm.turn hb hc hi'
        have gj : (ns.map V.int)[i]? = some (V.int (j : Int)) := by rw [List.getElem?_map, hj]; rfl
        have gm : behindV[j]? = some (V.int (m : Int)) := by unfold behindV; rw [List.getElem?_map, hm]; rfl
        refine ⟨_, rfl, _, rfl, a, _, _, _, rfl, rfl, s3.seq hS, at_of (j := i) rfl gj, ?_⟩
        refine ⟨_, rfl, _, _, rfl, rfl, _, rfl, nb, _, _, _, rfl, rfl, hB _, at_of (j := j) rfl gm, _, _, rfl, rfl, ?_⟩
        refine ⟨_, rfl, _, rfl, _, rfl, ⟨_, rfl, _, _, rfl, rfl, _, rfl, _, rfl, _, rfl, a, _, rfl, s3.seq hS, fun r hr' => ?_⟩⟩
        rw [cut_ints hle]
        have s4 : Same H2 (upd H2 r (.lst (((ns.drop (i + 1)).take m).map V.int))) := same_upd hr'
        have nrl : r ≠ lb := fun e => by
          obtain ⟨_, as, S⟩ := N2
          rw [e, S.lst] at hr'
          cases hr'
        refine ⟨n, lb, r, l, (j : Int), _, c, rfl, hT, upd_same, nrl, N2.same s4, ok, fun lc H3 p N3 hlc kp3 hp3 hp0 => ?_⟩
        have hqr : (upd H2 r (.lst (((ns.drop (i + 1)).take m).map V.int))) q = some (.lst (out.map V.int)) := s4 _ _ hq2
        have nqn : q ≠ n := by
          obtain ⟨⟨dy, hn⟩, _⟩ := N2
          exact ne_of hq2 hn (by intro z; cases z)
        have hq3 : H3 q = some (.lst (out.map V.int)) := kp3 q _ hqr nqn nql
        have nqc : q ≠ lc := by
          rcases hlc with e | e
          · rw [e]; exact nql
          · exact ne_of_none hqr e
        have npq : p ≠ q := fun e => by
          rw [e, hqr] at hp0
          cases hp0
        have hlo : out.length + (1 + (Uw79.step l c).2.length) ≤ 10000000 := by
          have := congrArg List.length hout
          rw [ea, List.length_append, Uwm.fin_cons hT, List.length_append, List.length_cons] at this
          omega
        have hlc0 : H lc = none := by
          rcases hlc with e | e
          · rw [e]; exact hlb
          · exact (s3.trans s4).free e
        have s5 : Same H H3 := fun b o e => kp3 b o (s4 _ _ (s3 _ _ e)) (ne_of_none e nn) (ne_of_none e hlb)
        -- answered.append(len(answer))
        refine ⟨_, rfl, .inl ⟨rfl, _, SqL.of hq3⟩, _, rfl, p, _, rfl, .inl (SqL.of hp3), q, _, _, rfl, rfl, hq3, ?_, ?_⟩
        · rw [List.length_map]
          show out.length < 16777216
          omega
        · have hp4 : (upd H3 q (.lst (out.map V.int ++ [V.int (((Uw79.step l c).2.map V.int).length : Int)]))) p = some (.lst ((Uw79.step l c).2.map V.int)) := by
            rw [upd_ne npq]
            exact hp3
          refine ⟨_, rfl, .inl ⟨rfl, _, SqL.of upd_same⟩, _, rfl, q, p, _, _, rfl, rfl, upd_same, hp4, ?_, ?_⟩
          · rw [List.length_append, List.length_map, List.length_map]
            show out.length + 1 + _ ≤ 16777216
            omega
          · refine ⟨_, rfl, ⟨i + 1 + m, g', raw', (Uw79.step l c).1, lc, out ++ (((Uw79.step l c).2.length : Int) :: (Uw79.step l c).2), _, _, _, rfl, hle, hc', Uwm.ok_step ok c, ?_, hlc0, ?_, nqc, ?_, ?_⟩, ?_⟩
            · exact ((N3.put hq3 nqc).put upd_same nqc)
            · rw [upd_same, List.length_map, List.append_assoc, List.map_append]
              rfl
            · rw [← hout, Uwm.fin_cons hT, List.append_assoc]
            · intro b o e
              rw [upd_ne (ne_of_none e hq0), upd_ne (ne_of_none e hq0)]
              exact s5 b o e
            · show ns.length - (((i : Int) + 1 + (m : Int))).toNat < ns.length - ((i : Int)).toNat
              omega
      · have e0 : i = ns.length := by
          have : ¬ ((i : Int) < ((ns.map V.int).length : Int)) := fun z => h1 (decide_eq_true z)
          rw [List.length_map] at this
          omega
        subst e0
        rw [List.drop_length] at hc
        have e1 := Uwm.calls_nil hc
        subst e1
        have e2 : out = PyUw79.answers ns := by
          rw [← hout]
          exact (List.append_nil out).symm
        rw [e2] at hq2
        exact ⟨_, rfl, k H2 q hq2⟩
    · rintro σ H' R R' hRR ⟨v, e, v0, e0, p, ys, e1, hs, i, j, e2, e3, b, e4, h⟩
      exact ⟨v, e, v0, e0, p, ys, e1, hs, i, j, e2, e3, b, e4, hRR _ _ h⟩
end
end Uwp

end

section
set_option Elab.async false
set_option linter.all false
set_option maxRecDepth 100000
set_option maxHeartbeats 4000000
namespace Uwp
open PySem PySem.Spec PyProof.Rows L2
open PySem.W (Codec)
theorem cT {i j : Int} {A B : Prop} (h : i = j) (a : A) : if decide (V.int i = V.int j) = true then A else B := by
  rw [if_pos (decide_eq_true (by rw [h]))]
  exact a
theorem cF {i j : Int} {A B : Prop} (h : ¬ i = j) (b : B) : if decide (V.int i = V.int j) = true then A else B := by
  rw [if_neg (fun q => h (V.int.inj (of_decide_eq_true q)))]
  exact b
theorem at0 {as : List Int} {v : Int} (h : as[0]? = some v) : atI (as.map V.int) 0 = some (V.int v) := at_of (j := 0) rfl (by rw [List.getElem?_map, h]; rfl)
theorem at1 {as : List Int} {v : Int} (h : as[1]? = some v) : atI (as.map V.int) 1 = some (V.int v) := at_of (j := 1) rfl (by rw [List.getElem?_map, h]; rfl)
theorem at2 {as : List Int} {v : Int} (h : as[2]? = some v) : atI (as.map V.int) 2 = some (V.int v) := at_of (j := 2) rfl (by rw [List.getElem?_map, h]; rfl)
section
variable {P : Program} {w : World} {K : PySem.W.Frag} {mg : Str → Option Value} {base : Heap} {B C D : Addr}
theorem scAnswerCall : FnScope ["night", "call", "numbers"] ["night", "call", "numbers"] (defScope sAnswerCall) := ⟨rfl, rfl, rfl, by decide +kernel, rfl, by decide +kernel, by decide +kernel⟩
structure Nums (mg : Str → Option Value) : Prop where
  c0 : ∃ t, mg "NIGHT" = some (.int 0 t)
  c1 : ∃ t, mg "SHARE" = some (.int 1 t)
  c2 : ∃ t, mg "UNDO" = some (.int 2 t)
  c3 : ∃ t, mg "SAILORS" = some (.int 3 t)
  c4 : ∃ t, mg "GOES" = some (.int 4 t)
  c5 : ∃ t, mg "GETS" = some (.int 5 t)
  c6 : ∃ t, mg "LEAST" = some (.int 6 t)
  c7 : ∃ t, mg "EVERY" = some (.int 7 t)
  c8 : ∃ t, mg "COUNT" = some (.int 8 t)
  c9 : ∃ t, mg "RICHEST" = some (.int 9 t)
  c10 : ∃ t, mg "BACK" = some (.int 10 t)
theorem last_pair (l : Uw79.Night) (m : Nat) : Uw79.step l (.last m) = (l, (Uw79.step l (.last m)).2) := by
  show (if m < 1 ∨ 20 < m then (l, [-1]) else Uw79.onHeaps l fun h => Uw79.counted (Uw79.lasts h m)) = (l, (if m < 1 ∨ 20 < m then (l, [-1]) else Uw79.onHeaps l fun h => Uw79.counted (Uw79.lasts h m)).2)
  split
  · rfl
  · rfl
theorem ok_answerCall {f : Addr} {fd : FuncData} (F : Fun K "answer_call" "answer_call" sAnswerCall f fd) (T : Txt K mg C D) (U : Nums mg)
    (G0 : MethOk P w K mg base D "begin" 5 ["self"] (spN0 C D .night))
    (G1 : MethOk P w K mg base D "add_share" 5 ["self", "parts", "over", "taken"] (spN3 C D .share))
    (G2 : MethOk P w K mg base D "undo" 5 ["self"] (spN0 C D .undo))
    (G3 : MethOk P w K mg base D "set_sailors" 5 ["self", "sailors"] (spN1 C D .sailors))
    (G4 : MethOk P w K mg base D "goes" 5 ["self", "heap"] (spAsk1 C D fun l x => (Uw79.step l (.goes x)).2))
    (G5 : MethOk P w K mg base D "gets" 5 ["self", "heap"] (spAsk1 C D fun l x => (Uw79.step l (.gets x)).2))
    (G6 : MethOk P w K mg base D "least" 5 ["self", "bound"] (spAsk1 C D fun l x => (Uw79.step l (.least x)).2))
    (G7 : MethOk P w K mg base D "every" 5 ["self"] (spAsk0 C D fun l => (Uw79.step l .every).2))
    (G8 : MethOk P w K mg base D "count_going" 5 ["self", "bound"] (spAsk1 C D fun l x => (Uw79.step l (.count x)).2))
    (G9 : MethOk P w K mg base D "richest" 5 ["self", "bound", "index"] (spAsk2 C D fun l x i => (Uw79.step l (.richest x i)).2))
    (G10 : MethOk P w K mg base D "back" 5 ["self", "left"] (spAsk1 C D fun l y => (Uw79.step l (.back y)).2))
    (G11 : MethOk P w K mg base D "last" 5 ["self", "divisor"] (spAsk1 C D fun l m => (Uw79.step l (.last m)).2))
    : FnOk P w K mg base CX0 6 f fd ["night", "call", "numbers"] (spCall C D) := by
  obtain ⟨f0, fd0, G0, b0, m0⟩ := G0
  obtain ⟨f1, fd1, G1, b1, m1⟩ := G1
  obtain ⟨f2, fd2, G2, b2, m2⟩ := G2
  obtain ⟨f3, fd3, G3, b3, m3⟩ := G3
  obtain ⟨f4, fd4, G4, b4, m4⟩ := G4
  obtain ⟨f5, fd5, G5, b5, m5⟩ := G5
  obtain ⟨f6, fd6, G6, b6, m6⟩ := G6
  obtain ⟨f7, fd7, G7, b7, m7⟩ := G7
  obtain ⟨f8, fd8, G8, b8, m8⟩ := G8
  obtain ⟨f9, fd9, G9, b9, m9⟩ := G9
  obtain ⟨f10, fd10, G10, b10, m10⟩ := G10
  obtain ⟨f11, fd11, G11, b11, m11⟩ := G11
  obtain ⟨t0, c0⟩ := U.c0
  obtain ⟨t1, c1⟩ := U.c1
  obtain ⟨t2, c2⟩ := U.c2
  obtain ⟨t3, c3⟩ := U.c3
  obtain ⟨t4, c4⟩ := U.c4
  obtain ⟨t5, c5⟩ := U.c5
  obtain ⟨t6, c6⟩ := U.c6
  obtain ⟨t7, c7⟩ := U.c7
  obtain ⟨t8, c8⟩ := U.c8
  obtain ⟨t9, c9⟩ := U.c9
  obtain ⟨t10, c10⟩ := U.c10
  refine F.ok scAnswerCall (fun vs H Q E h => ?_) (fun cdv A outer s H vs Q E hr h => ?_)
  · obtain ⟨n, la, r, l, j, as, c, rfl, _⟩ := h
    rfl
  · obtain ⟨n, la, r, l, j, as, c, rfl, hT, hr', nrl, N, ok, k⟩ := h
    obtain ⟨⟨dx, hn⟩, _⟩ := id N
    refine ⟨_, pss_cons (ps_if (pt_cmpR op_eq (pv 1) (pe_glob (v := .int 0) rfl c0 ⟨t0, rfl⟩) (nomark _)) (pss_one (ps_ret (pe_meth0 (pv 0) T.clD m0 G0 hr b0 .nil pass0))) pss_nil)
      (pss_cons (ps_if (pt_cmpR op_eq (pv 1) (pe_glob (v := .int 1) rfl c1 ⟨t1, rfl⟩) (nomark _)) (pss_one (ps_ret (pe_meth (pv 0) T.clD m1 G1 hr b1 .nil pass0 (pa_cons (pe_ix ix_list (pv 2) pe_int (fun _ _ => rfl)) (pa_cons (pe_ix ix_list (pv 2) pe_int (fun _ _ => rfl)) (pa_cons (pe_ix ix_list (pv 2) pe_int (fun _ _ => rfl)) pa_nil)))))) pss_nil)
      (pss_cons (ps_if (pt_cmpR op_eq (pv 1) (pe_glob (v := .int 2) rfl c2 ⟨t2, rfl⟩) (nomark _)) (pss_one (ps_ret (pe_meth0 (pv 0) T.clD m2 G2 hr b2 .nil pass0))) pss_nil)
      (pss_cons (ps_if (pt_cmpR op_eq (pv 1) (pe_glob (v := .int 3) rfl c3 ⟨t3, rfl⟩) (nomark _)) (pss_one (ps_ret (pe_meth (pv 0) T.clD m3 G3 hr b3 .nil pass0 (pa_cons (pe_ix ix_list (pv 2) pe_int (fun _ _ => rfl)) pa_nil)))) pss_nil)
      (pss_cons (ps_if (pt_cmpR op_eq (pv 1) (pe_glob (v := .int 4) rfl c4 ⟨t4, rfl⟩) (nomark _)) (pss_one (ps_ret (pe_meth (pv 0) T.clD m4 G4 hr b4 .nil pass0 (pa_cons (pe_ix ix_list (pv 2) pe_int (fun _ _ => rfl)) pa_nil)))) pss_nil)
      (pss_cons (ps_if (pt_cmpR op_eq (pv 1) (pe_glob (v := .int 5) rfl c5 ⟨t5, rfl⟩) (nomark _)) (pss_one (ps_ret (pe_meth (pv 0) T.clD m5 G5 hr b5 .nil pass0 (pa_cons (pe_ix ix_list (pv 2) pe_int (fun _ _ => rfl)) pa_nil)))) pss_nil)
      (pss_cons (ps_if (pt_cmpR op_eq (pv 1) (pe_glob (v := .int 6) rfl c6 ⟨t6, rfl⟩) (nomark _)) (pss_one (ps_ret (pe_meth (pv 0) T.clD m6 G6 hr b6 .nil pass0 (pa_cons (pe_ix ix_list (pv 2) pe_int (fun _ _ => rfl)) pa_nil)))) pss_nil)
      (pss_cons (ps_if (pt_cmpR op_eq (pv 1) (pe_glob (v := .int 7) rfl c7 ⟨t7, rfl⟩) (nomark _)) (pss_one (ps_ret (pe_meth0 (pv 0) T.clD m7 G7 hr b7 .nil pass0))) pss_nil)
      (pss_cons (ps_if (pt_cmpR op_eq (pv 1) (pe_glob (v := .int 8) rfl c8 ⟨t8, rfl⟩) (nomark _)) (pss_one (ps_ret (pe_meth (pv 0) T.clD m8 G8 hr b8 .nil pass0 (pa_cons (pe_ix ix_list (pv 2) pe_int (fun _ _ => rfl)) pa_nil)))) pss_nil)
      (pss_cons (ps_if (pt_cmpR op_eq (pv 1) (pe_glob (v := .int 9) rfl c9 ⟨t9, rfl⟩) (nomark _)) (pss_one (ps_ret (pe_meth (pv 0) T.clD m9 G9 hr b9 .nil pass0 (pa_cons (pe_ix ix_list (pv 2) pe_int (fun _ _ => rfl)) (pa_cons (pe_ix ix_list (pv 2) pe_int (fun _ _ => rfl)) pa_nil))))) pss_nil)
      (pss_cons (ps_if (pt_cmpR op_eq (pv 1) (pe_glob (v := .int 10) rfl c10 ⟨t10, rfl⟩) (nomark _)) (pss_one (ps_ret (pe_meth (pv 0) T.clD m10 G10 hr b10 .nil pass0 (pa_cons (pe_ix ix_list (pv 2) pe_int (fun _ _ => rfl)) pa_nil)))) pss_nil)
      (pss_one (ps_ret (pe_meth (pv 0) T.clD m11 G11 hr b11 .nil pass0 (pa_cons (pe_ix ix_list (pv 2) pe_int (fun _ _ => rfl)) pa_nil)))))))))))))), ?_⟩
    cases hT with
    | night =>
      refine ⟨_, rfl, rfl, _, rfl, cT rfl ?_⟩
      exact ⟨_, rfl, n, dx, _, rfl, hn, nf_no la (by decide +kernel), n, la, l, rfl, N, ok, k⟩
    | share p r1 t hp hr1 ht =>
      refine ⟨_, rfl, rfl, _, rfl, cF (by decide) ⟨_, rfl, rfl, _, rfl, cT rfl ?_⟩⟩
      exact ⟨_, rfl, n, dx, _, rfl, hn, nf_no la (by decide +kernel), _, rfl, r, _, _, _, rfl, rfl, SqL.of hr', at0 rfl, _, rfl, r, _, _, _, rfl, rfl, SqL.of hr', at1 rfl, _, rfl, r, _, _, _, rfl, rfl, SqL.of hr', at2 rfl, n, la, l, p, r1, t, rfl, N, ok, k⟩
    | undo =>
      refine ⟨_, rfl, rfl, _, rfl, cF (by decide) ⟨_, rfl, rfl, _, rfl, cF (by decide) ⟨_, rfl, rfl, _, rfl, cT rfl ?_⟩⟩⟩
      exact ⟨_, rfl, n, dx, _, rfl, hn, nf_no la (by decide +kernel), n, la, l, rfl, N, ok, k⟩
    | sailors m hm =>
      refine ⟨_, rfl, rfl, _, rfl, cF (by decide) ⟨_, rfl, rfl, _, rfl, cF (by decide) ⟨_, rfl, rfl, _, rfl, cF (by decide) ⟨_, rfl, rfl, _, rfl, cT rfl ?_⟩⟩⟩⟩
      exact ⟨_, rfl, n, dx, _, rfl, hn, nf_no la (by decide +kernel), _, rfl, r, _, _, _, rfl, rfl, SqL.of hr', at0 rfl, n, la, l, m, rfl, hm, N, ok, k⟩
    | goes x hx =>
      refine ⟨_, rfl, rfl, _, rfl, cF (by decide) ⟨_, rfl, rfl, _, rfl, cF (by decide) ⟨_, rfl, rfl, _, rfl, cF (by decide) ⟨_, rfl, rfl, _, rfl, cF (by decide) ⟨_, rfl, rfl, _, rfl, cT rfl ?_⟩⟩⟩⟩⟩
      exact ⟨_, rfl, n, dx, _, rfl, hn, nf_no la (by decide +kernel), _, rfl, r, _, _, _, rfl, rfl, SqL.of hr', at0 rfl, n, la, l, x, rfl, hx, N, ok, Res.ask N k⟩
    | gets x hx =>
      refine ⟨_, rfl, rfl, _, rfl, cF (by decide) ⟨_, rfl, rfl, _, rfl, cF (by decide) ⟨_, rfl, rfl, _, rfl, cF (by decide) ⟨_, rfl, rfl, _, rfl, cF (by decide) ⟨_, rfl, rfl, _, rfl, cF (by decide) ⟨_, rfl, rfl, _, rfl, cT rfl ?_⟩⟩⟩⟩⟩⟩
      exact ⟨_, rfl, n, dx, _, rfl, hn, nf_no la (by decide +kernel), _, rfl, r, _, _, _, rfl, rfl, SqL.of hr', at0 rfl, n, la, l, x, rfl, hx, N, ok, Res.ask N k⟩
    | least x hx =>
      refine ⟨_, rfl, rfl, _, rfl, cF (by decide) ⟨_, rfl, rfl, _, rfl, cF (by decide) ⟨_, rfl, rfl, _, rfl, cF (by decide) ⟨_, rfl, rfl, _, rfl, cF (by decide) ⟨_, rfl, rfl, _, rfl, cF (by decide) ⟨_, rfl, rfl, _, rfl, cF (by decide) ⟨_, rfl, rfl, _, rfl, cT rfl ?_⟩⟩⟩⟩⟩⟩⟩
      exact ⟨_, rfl, n, dx, _, rfl, hn, nf_no la (by decide +kernel), _, rfl, r, _, _, _, rfl, rfl, SqL.of hr', at0 rfl, n, la, l, x, rfl, hx, N, ok, Res.ask N k⟩
    | every =>
      refine ⟨_, rfl, rfl, _, rfl, cF (by decide) ⟨_, rfl, rfl, _, rfl, cF (by decide) ⟨_, rfl, rfl, _, rfl, cF (by decide) ⟨_, rfl, rfl, _, rfl, cF (by decide) ⟨_, rfl, rfl, _, rfl, cF (by decide) ⟨_, rfl, rfl, _, rfl, cF (by decide) ⟨_, rfl, rfl, _, rfl, cF (by decide) ⟨_, rfl, rfl, _, rfl, cT rfl ?_⟩⟩⟩⟩⟩⟩⟩⟩
      exact ⟨_, rfl, n, dx, _, rfl, hn, nf_no la (by decide +kernel), n, la, l, rfl, N, ok, Res.ask N k⟩
    | count x hx =>
      refine ⟨_, rfl, rfl, _, rfl, cF (by decide) ⟨_, rfl, rfl, _, rfl, cF (by decide) ⟨_, rfl, rfl, _, rfl, cF (by decide) ⟨_, rfl, rfl, _, rfl, cF (by decide) ⟨_, rfl, rfl, _, rfl, cF (by decide) ⟨_, rfl, rfl, _, rfl, cF (by decide) ⟨_, rfl, rfl, _, rfl, cF (by decide) ⟨_, rfl, rfl, _, rfl, cF (by decide) ⟨_, rfl, rfl, _, rfl, cT rfl ?_⟩⟩⟩⟩⟩⟩⟩⟩⟩
      exact ⟨_, rfl, n, dx, _, rfl, hn, nf_no la (by decide +kernel), _, rfl, r, _, _, _, rfl, rfl, SqL.of hr', at0 rfl, n, la, l, x, rfl, hx, N, ok, Res.ask N k⟩
    | richest x i hx hi =>
      refine ⟨_, rfl, rfl, _, rfl, cF (by decide) ⟨_, rfl, rfl, _, rfl, cF (by decide) ⟨_, rfl, rfl, _, rfl, cF (by decide) ⟨_, rfl, rfl, _, rfl, cF (by decide) ⟨_, rfl, rfl, _, rfl, cF (by decide) ⟨_, rfl, rfl, _, rfl, cF (by decide) ⟨_, rfl, rfl, _, rfl, cF (by decide) ⟨_, rfl, rfl, _, rfl, cF (by decide) ⟨_, rfl, rfl, _, rfl, cF (by decide) ⟨_, rfl, rfl, _, rfl, cT rfl ?_⟩⟩⟩⟩⟩⟩⟩⟩⟩⟩
      exact ⟨_, rfl, n, dx, _, rfl, hn, nf_no la (by decide +kernel), _, rfl, r, _, _, _, rfl, rfl, SqL.of hr', at0 rfl, _, rfl, r, _, _, _, rfl, rfl, SqL.of hr', at1 rfl, n, la, l, x, i, rfl, hx, N, ok, Res.ask N k⟩
    | back x hx =>
      refine ⟨_, rfl, rfl, _, rfl, cF (by decide) ⟨_, rfl, rfl, _, rfl, cF (by decide) ⟨_, rfl, rfl, _, rfl, cF (by decide) ⟨_, rfl, rfl, _, rfl, cF (by decide) ⟨_, rfl, rfl, _, rfl, cF (by decide) ⟨_, rfl, rfl, _, rfl, cF (by decide) ⟨_, rfl, rfl, _, rfl, cF (by decide) ⟨_, rfl, rfl, _, rfl, cF (by decide) ⟨_, rfl, rfl, _, rfl, cF (by decide) ⟨_, rfl, rfl, _, rfl, cF (by decide) ⟨_, rfl, rfl, _, rfl, cT rfl ?_⟩⟩⟩⟩⟩⟩⟩⟩⟩⟩⟩
      exact ⟨_, rfl, n, dx, _, rfl, hn, nf_no la (by decide +kernel), _, rfl, r, _, _, _, rfl, rfl, SqL.of hr', at0 rfl, n, la, l, x, rfl, hx, N, ok, Res.ask N k⟩
    | last x hx =>
      refine ⟨_, rfl, rfl, _, rfl, cF (by decide) ⟨_, rfl, rfl, _, rfl, cF (by decide) ⟨_, rfl, rfl, _, rfl, cF (by decide) ⟨_, rfl, rfl, _, rfl, cF (by decide) ⟨_, rfl, rfl, _, rfl, cF (by decide) ⟨_, rfl, rfl, _, rfl, cF (by decide) ⟨_, rfl, rfl, _, rfl, cF (by decide) ⟨_, rfl, rfl, _, rfl, cF (by decide) ⟨_, rfl, rfl, _, rfl, cF (by decide) ⟨_, rfl, rfl, _, rfl, cF (by decide) ⟨_, rfl, rfl, _, rfl, cF (by decide) ?_⟩⟩⟩⟩⟩⟩⟩⟩⟩⟩⟩
      rw [last_pair] at k
      exact ⟨_, rfl, n, dx, _, rfl, hn, nf_no la (by decide +kernel), _, rfl, r, _, _, _, rfl, rfl, SqL.of hr', at0 rfl, n, la, l, x, rfl, hx, N, ok, Res.ask N k⟩
end
end Uwp

end

section
set_option Elab.async false
set_option linter.all false
set_option maxRecDepth 100000
set_option maxHeartbeats 4000000
namespace Uwp
open PySem PySem.Spec PyProof.Rows L2
open PySem.W (Codec)
theorem all_mk {P : Program} {w : World} {K : PySem.W.Frag} {h : Heap} {mg : Str → Option Value} {fa C B D : Addr}
    {f_ShInit : Addr} {od_ShInit an_ShInit : Option Addr} {sl_ShInit : Array (Option Value)} {oc_ShInit kV_ShInit dc_ShInit pm_ShInit cd_ShInit ct_ShInit : Value}
    {f_GoesWith : Addr} {od_GoesWith an_GoesWith : Option Addr} {sl_GoesWith : Array (Option Value)} {oc_GoesWith kV_GoesWith dc_GoesWith pm_GoesWith cd_GoesWith ct_GoesWith : Value}
    {f_PartSize : Addr} {od_PartSize an_PartSize : Option Addr} {sl_PartSize : Array (Option Value)} {oc_PartSize kV_PartSize dc_PartSize pm_PartSize cd_PartSize ct_PartSize : Value}
    {f_HeapBehind : Addr} {od_HeapBehind an_HeapBehind : Option Addr} {sl_HeapBehind : Array (Option Value)} {oc_HeapBehind kV_HeapBehind dc_HeapBehind pm_HeapBehind cd_HeapBehind ct_HeapBehind : Value}
    {f_TakesAll : Addr} {od_TakesAll an_TakesAll : Option Addr} {sl_TakesAll : Array (Option Value)} {oc_TakesAll kV_TakesAll dc_TakesAll pm_TakesAll cd_TakesAll ct_TakesAll : Value}
    {f_HeapAhead : Addr} {od_HeapAhead an_HeapAhead : Option Addr} {sl_HeapAhead : Array (Option Value)} {oc_HeapAhead kV_HeapAhead dc_HeapAhead pm_HeapAhead cd_HeapAhead ct_HeapAhead : Value}
    {f_RowInit : Addr} {od_RowInit an_RowInit : Option Addr} {sl_RowInit : Array (Option Value)} {oc_RowInit kV_RowInit dc_RowInit pm_RowInit cd_RowInit ct_RowInit : Value}
    {f_Number : Addr} {od_Number an_Number : Option Addr} {sl_Number : Array (Option Value)} {oc_Number kV_Number dc_Number pm_Number cd_Number ct_Number : Value}
    {f_PlaceFrom : Addr} {od_PlaceFrom an_PlaceFrom : Option Addr} {sl_PlaceFrom : Array (Option Value)} {oc_PlaceFrom kV_PlaceFrom dc_PlaceFrom pm_PlaceFrom cd_PlaceFrom ct_PlaceFrom : Value}
    {f_CountTo : Addr} {od_CountTo an_CountTo : Option Addr} {sl_CountTo : Array (Option Value)} {oc_CountTo kV_CountTo dc_CountTo pm_CountTo cd_CountTo ct_CountTo : Value}
    {f_Leaves : Addr} {od_Leaves an_Leaves : Option Addr} {sl_Leaves : Array (Option Value)} {oc_Leaves kV_Leaves dc_Leaves pm_Leaves cd_Leaves ct_Leaves : Value}
    {f_PlaceGoes : Addr} {od_PlaceGoes an_PlaceGoes : Option Addr} {sl_PlaceGoes : Array (Option Value)} {oc_PlaceGoes kV_PlaceGoes dc_PlaceGoes pm_PlaceGoes cd_PlaceGoes ct_PlaceGoes : Value}
    {f_PlacesBetween : Addr} {od_PlacesBetween an_PlacesBetween : Option Addr} {sl_PlacesBetween : Array (Option Value)} {oc_PlacesBetween kV_PlacesBetween dc_PlacesBetween pm_PlacesBetween cd_PlacesBetween ct_PlacesBetween : Value}
    {f_Thinned : Addr} {od_Thinned an_Thinned : Option Addr} {sl_Thinned : Array (Option Value)} {oc_Thinned kV_Thinned dc_Thinned pm_Thinned cd_Thinned ct_Thinned : Value}
    {f_RestsBehind : Addr} {od_RestsBehind an_RestsBehind : Option Addr} {sl_RestsBehind : Array (Option Value)} {oc_RestsBehind kV_RestsBehind dc_RestsBehind pm_RestsBehind cd_RestsBehind ct_RestsBehind : Value}
    {f_NInit : Addr} {od_NInit an_NInit : Option Addr} {sl_NInit : Array (Option Value)} {oc_NInit kV_NInit dc_NInit pm_NInit cd_NInit ct_NInit : Value}
    {f_Begin : Addr} {od_Begin an_Begin : Option Addr} {sl_Begin : Array (Option Value)} {oc_Begin kV_Begin dc_Begin pm_Begin cd_Begin ct_Begin : Value}
    {f_AddShare : Addr} {od_AddShare an_AddShare : Option Addr} {sl_AddShare : Array (Option Value)} {oc_AddShare kV_AddShare dc_AddShare pm_AddShare cd_AddShare ct_AddShare : Value}
    {f_Undo : Addr} {od_Undo an_Undo : Option Addr} {sl_Undo : Array (Option Value)} {oc_Undo kV_Undo dc_Undo pm_Undo cd_Undo ct_Undo : Value}
    {f_SetSailors : Addr} {od_SetSailors an_SetSailors : Option Addr} {sl_SetSailors : Array (Option Value)} {oc_SetSailors kV_SetSailors dc_SetSailors pm_SetSailors cd_SetSailors ct_SetSailors : Value}
    {f_PartSizes : Addr} {od_PartSizes an_PartSizes : Option Addr} {sl_PartSizes : Array (Option Value)} {oc_PartSizes kV_PartSizes dc_PartSizes pm_PartSizes cd_PartSizes ct_PartSizes : Value}
    {f_Goes : Addr} {od_Goes an_Goes : Option Addr} {sl_Goes : Array (Option Value)} {oc_Goes kV_Goes dc_Goes pm_Goes cd_Goes ct_Goes : Value}
    {f_Gets : Addr} {od_Gets an_Gets : Option Addr} {sl_Gets : Array (Option Value)} {oc_Gets kV_Gets dc_Gets pm_Gets cd_Gets ct_Gets : Value}
    {f_MonkeyGets : Addr} {od_MonkeyGets an_MonkeyGets : Option Addr} {sl_MonkeyGets : Array (Option Value)} {oc_MonkeyGets kV_MonkeyGets dc_MonkeyGets pm_MonkeyGets cd_MonkeyGets ct_MonkeyGets : Value}
    {f_TakenOf : Addr} {od_TakenOf an_TakenOf : Option Addr} {sl_TakenOf : Array (Option Value)} {oc_TakenOf kV_TakenOf dc_TakenOf pm_TakenOf cd_TakenOf ct_TakenOf : Value}
    {f_LeftOf : Addr} {od_LeftOf an_LeftOf : Option Addr} {sl_LeftOf : Array (Option Value)} {oc_LeftOf kV_LeftOf dc_LeftOf pm_LeftOf cd_LeftOf ct_LeftOf : Value}
    {f_GoingHeaps : Addr} {od_GoingHeaps an_GoingHeaps : Option Addr} {sl_GoingHeaps : Array (Option Value)} {oc_GoingHeaps kV_GoingHeaps dc_GoingHeaps pm_GoingHeaps cd_GoingHeaps ct_GoingHeaps : Value}
    {f_Least : Addr} {od_Least an_Least : Option Addr} {sl_Least : Array (Option Value)} {oc_Least kV_Least dc_Least pm_Least cd_Least ct_Least : Value}
    {f_Every : Addr} {od_Every an_Every : Option Addr} {sl_Every : Array (Option Value)} {oc_Every kV_Every dc_Every pm_Every cd_Every ct_Every : Value}
    {f_CountGoing : Addr} {od_CountGoing an_CountGoing : Option Addr} {sl_CountGoing : Array (Option Value)} {oc_CountGoing kV_CountGoing dc_CountGoing pm_CountGoing cd_CountGoing ct_CountGoing : Value}
    {f_Richest : Addr} {od_Richest an_Richest : Option Addr} {sl_Richest : Array (Option Value)} {oc_Richest kV_Richest dc_Richest pm_Richest cd_Richest ct_Richest : Value}
    {f_Back : Addr} {od_Back an_Back : Option Addr} {sl_Back : Array (Option Value)} {oc_Back kV_Back dc_Back pm_Back cd_Back ct_Back : Value}
    {f_Last : Addr} {od_Last an_Last : Option Addr} {sl_Last : Array (Option Value)} {oc_Last kV_Last dc_Last pm_Last cd_Last ct_Last : Value}
    {f_IsParts : Addr} {od_IsParts an_IsParts : Option Addr} {sl_IsParts : Array (Option Value)} {oc_IsParts kV_IsParts dc_IsParts pm_IsParts cd_IsParts ct_IsParts : Value}
    {f_IsShare : Addr} {od_IsShare an_IsShare : Option Addr} {sl_IsShare : Array (Option Value)} {oc_IsShare kV_IsShare dc_IsShare pm_IsShare cd_IsShare ct_IsShare : Value}
    {f_RoundedUp : Addr} {od_RoundedUp an_RoundedUp : Option Addr} {sl_RoundedUp : Array (Option Value)} {oc_RoundedUp kV_RoundedUp dc_RoundedUp pm_RoundedUp cd_RoundedUp ct_RoundedUp : Value}
    {f_RowThrough : Addr} {od_RowThrough an_RowThrough : Option Addr} {sl_RowThrough : Array (Option Value)} {oc_RowThrough kV_RowThrough dc_RowThrough pm_RowThrough cd_RowThrough ct_RowThrough : Value}
    {f_AnswerCall : Addr} {od_AnswerCall an_AnswerCall : Option Addr} {sl_AnswerCall : Array (Option Value)} {oc_AnswerCall kV_AnswerCall dc_AnswerCall pm_AnswerCall cd_AnswerCall ct_AnswerCall : Value}
    {f_Answers : Addr} {od_Answers an_Answers : Option Addr} {sl_Answers : Array (Option Value)} {oc_Answers kV_Answers dc_Answers pm_Answers cd_Answers ct_Answers : Value}
    {t_MOST_SHARES : Tok}
    {t_LEAST_PARTS : Tok}
    {t_MOST_PARTS : Tok}
    {t_LEAST_DIVISOR : Tok}
    {t_MOST_DIVISOR : Tok}
    {t_WRONG_NUMBER : Tok}
    {t_DOES_NOT_GO : Tok}
    {t_NEVER_SO_MUCH : Tok}
    {t_TOO_MANY_SHARES : Tok}
    {t_NO_HEAP : Tok}
    {t_ALL_TAKEN : Tok}
    {t_NO_SHARE : Tok}
    {t_NIGHT : Tok}
    {t_SHARE : Tok}
    {t_UNDO : Tok}
    {t_SAILORS : Tok}
    {t_GOES : Tok}
    {t_GETS : Tok}
    {t_LEAST : Tok}
    {t_EVERY : Tok}
    {t_COUNT : Tok}
    {t_RICHEST : Tok}
    {t_BACK : Tok}
    {w_NUMBERS_BEHIND : Addr} {od_NUMBERS_BEHIND : Option Addr} {nn_NUMBERS_BEHIND : Nat} {sl_NUMBERS_BEHIND : Array (Option Value)} {u0_NUMBERS_BEHIND u1_NUMBERS_BEHIND u2_NUMBERS_BEHIND u3_NUMBERS_BEHIND u4_NUMBERS_BEHIND u5_NUMBERS_BEHIND u6_NUMBERS_BEHIND u7_NUMBERS_BEHIND u8_NUMBERS_BEHIND u9_NUMBERS_BEHIND u10_NUMBERS_BEHIND u11_NUMBERS_BEHIND : Tok} (X : K.In h) (G : h.Ns mainGlobals mg) (hfa : mg "answers" = some (.ref fa))
    (aC : PySem.W.nsIn K mainGlobals "Share" = some (some (.ref C)))
    (aB : PySem.W.nsIn K mainGlobals "Row" = some (some (.ref B)))
    (aD : PySem.W.nsIn K mainGlobals "Night" = some (some (.ref D)))
    (a_ShInit : PySem.W.findIn K (.ref C) "__init__" = some (some (.ref f_ShInit)))
    (i_ShInit : PySem.W.isFn K (.ref f_ShInit) = true)
    (l_ShInit : K.lookup f_ShInit = some ⟨oc_ShInit, od_ShInit, .func (PySem.W.fnOf "__init__" "Share.__init__" (defArgs sShInit) (defBody sShInit) (defScope sShInit) .none kV_ShInit dc_ShInit pm_ShInit an_ShInit cd_ShInit ct_ShInit), sl_ShInit⟩)
    (c_ShInit : PySem.W.codeIn K cd_ShInit "Share.__init__" = true)
    (k_ShInit : PySem.W.keepIn K (.ref f_ShInit) = true)
    (a_GoesWith : PySem.W.findIn K (.ref C) "goes_with" = some (some (.ref f_GoesWith)))
    (i_GoesWith : PySem.W.isFn K (.ref f_GoesWith) = true)
    (l_GoesWith : K.lookup f_GoesWith = some ⟨oc_GoesWith, od_GoesWith, .func (PySem.W.fnOf "goes_with" "Share.goes_with" (defArgs sGoesWith) (defBody sGoesWith) (defScope sGoesWith) .none kV_GoesWith dc_GoesWith pm_GoesWith an_GoesWith cd_GoesWith ct_GoesWith), sl_GoesWith⟩)
    (c_GoesWith : PySem.W.codeIn K cd_GoesWith "Share.goes_with" = true)
    (k_GoesWith : PySem.W.keepIn K (.ref f_GoesWith) = true)
    (a_PartSize : PySem.W.findIn K (.ref C) "part_size" = some (some (.ref f_PartSize)))
    (i_PartSize : PySem.W.isFn K (.ref f_PartSize) = true)
    (l_PartSize : K.lookup f_PartSize = some ⟨oc_PartSize, od_PartSize, .func (PySem.W.fnOf "part_size" "Share.part_size" (defArgs sPartSize) (defBody sPartSize) (defScope sPartSize) .none kV_PartSize dc_PartSize pm_PartSize an_PartSize cd_PartSize ct_PartSize), sl_PartSize⟩)
    (c_PartSize : PySem.W.codeIn K cd_PartSize "Share.part_size" = true)
    (k_PartSize : PySem.W.keepIn K (.ref f_PartSize) = true)
    (a_HeapBehind : PySem.W.findIn K (.ref C) "heap_behind" = some (some (.ref f_HeapBehind)))
    (i_HeapBehind : PySem.W.isFn K (.ref f_HeapBehind) = true)
    (l_HeapBehind : K.lookup f_HeapBehind = some ⟨oc_HeapBehind, od_HeapBehind, .func (PySem.W.fnOf "heap_behind" "Share.heap_behind" (defArgs sHeapBehind) (defBody sHeapBehind) (defScope sHeapBehind) .none kV_HeapBehind dc_HeapBehind pm_HeapBehind an_HeapBehind cd_HeapBehind ct_HeapBehind), sl_HeapBehind⟩)
    (c_HeapBehind : PySem.W.codeIn K cd_HeapBehind "Share.heap_behind" = true)
    (k_HeapBehind : PySem.W.keepIn K (.ref f_HeapBehind) = true)
    (a_TakesAll : PySem.W.findIn K (.ref C) "takes_all" = some (some (.ref f_TakesAll)))
    (i_TakesAll : PySem.W.isFn K (.ref f_TakesAll) = true)
    (l_TakesAll : K.lookup f_TakesAll = some ⟨oc_TakesAll, od_TakesAll, .func (PySem.W.fnOf "takes_all" "Share.takes_all" (defArgs sTakesAll) (defBody sTakesAll) (defScope sTakesAll) .none kV_TakesAll dc_TakesAll pm_TakesAll an_TakesAll cd_TakesAll ct_TakesAll), sl_TakesAll⟩)
    (c_TakesAll : PySem.W.codeIn K cd_TakesAll "Share.takes_all" = true)
    (k_TakesAll : PySem.W.keepIn K (.ref f_TakesAll) = true)
    (a_HeapAhead : PySem.W.findIn K (.ref C) "heap_ahead" = some (some (.ref f_HeapAhead)))
    (i_HeapAhead : PySem.W.isFn K (.ref f_HeapAhead) = true)
    (l_HeapAhead : K.lookup f_HeapAhead = some ⟨oc_HeapAhead, od_HeapAhead, .func (PySem.W.fnOf "heap_ahead" "Share.heap_ahead" (defArgs sHeapAhead) (defBody sHeapAhead) (defScope sHeapAhead) .none kV_HeapAhead dc_HeapAhead pm_HeapAhead an_HeapAhead cd_HeapAhead ct_HeapAhead), sl_HeapAhead⟩)
    (c_HeapAhead : PySem.W.codeIn K cd_HeapAhead "Share.heap_ahead" = true)
    (k_HeapAhead : PySem.W.keepIn K (.ref f_HeapAhead) = true)
    (a_RowInit : PySem.W.findIn K (.ref B) "__init__" = some (some (.ref f_RowInit)))
    (i_RowInit : PySem.W.isFn K (.ref f_RowInit) = true)
    (l_RowInit : K.lookup f_RowInit = some ⟨oc_RowInit, od_RowInit, .func (PySem.W.fnOf "__init__" "Row.__init__" (defArgs sRowInit) (defBody sRowInit) (defScope sRowInit) .none kV_RowInit dc_RowInit pm_RowInit an_RowInit cd_RowInit ct_RowInit), sl_RowInit⟩)
    (c_RowInit : PySem.W.codeIn K cd_RowInit "Row.__init__" = true)
    (k_RowInit : PySem.W.keepIn K (.ref f_RowInit) = true)
    (a_Number : PySem.W.findIn K (.ref B) "number" = some (some (.ref f_Number)))
    (i_Number : PySem.W.isFn K (.ref f_Number) = true)
    (l_Number : K.lookup f_Number = some ⟨oc_Number, od_Number, .func (PySem.W.fnOf "number" "Row.number" (defArgs sNumber) (defBody sNumber) (defScope sNumber) .none kV_Number dc_Number pm_Number an_Number cd_Number ct_Number), sl_Number⟩)
    (c_Number : PySem.W.codeIn K cd_Number "Row.number" = true)
    (k_Number : PySem.W.keepIn K (.ref f_Number) = true)
    (a_PlaceFrom : PySem.W.findIn K (.ref B) "place_from" = some (some (.ref f_PlaceFrom)))
    (i_PlaceFrom : PySem.W.isFn K (.ref f_PlaceFrom) = true)
    (l_PlaceFrom : K.lookup f_PlaceFrom = some ⟨oc_PlaceFrom, od_PlaceFrom, .func (PySem.W.fnOf "place_from" "Row.place_from" (defArgs sPlaceFrom) (defBody sPlaceFrom) (defScope sPlaceFrom) .none kV_PlaceFrom dc_PlaceFrom pm_PlaceFrom an_PlaceFrom cd_PlaceFrom ct_PlaceFrom), sl_PlaceFrom⟩)
    (c_PlaceFrom : PySem.W.codeIn K cd_PlaceFrom "Row.place_from" = true)
    (k_PlaceFrom : PySem.W.keepIn K (.ref f_PlaceFrom) = true)
    (a_CountTo : PySem.W.findIn K (.ref B) "count_to" = some (some (.ref f_CountTo)))
    (i_CountTo : PySem.W.isFn K (.ref f_CountTo) = true)
    (l_CountTo : K.lookup f_CountTo = some ⟨oc_CountTo, od_CountTo, .func (PySem.W.fnOf "count_to" "Row.count_to" (defArgs sCountTo) (defBody sCountTo) (defScope sCountTo) .none kV_CountTo dc_CountTo pm_CountTo an_CountTo cd_CountTo ct_CountTo), sl_CountTo⟩)
    (c_CountTo : PySem.W.codeIn K cd_CountTo "Row.count_to" = true)
    (k_CountTo : PySem.W.keepIn K (.ref f_CountTo) = true)
    (a_Leaves : PySem.W.findIn K (.ref B) "leaves" = some (some (.ref f_Leaves)))
    (i_Leaves : PySem.W.isFn K (.ref f_Leaves) = true)
    (l_Leaves : K.lookup f_Leaves = some ⟨oc_Leaves, od_Leaves, .func (PySem.W.fnOf "leaves" "Row.leaves" (defArgs sLeaves) (defBody sLeaves) (defScope sLeaves) .none kV_Leaves dc_Leaves pm_Leaves an_Leaves cd_Leaves ct_Leaves), sl_Leaves⟩)
    (c_Leaves : PySem.W.codeIn K cd_Leaves "Row.leaves" = true)
    (k_Leaves : PySem.W.keepIn K (.ref f_Leaves) = true)
    (a_PlaceGoes : PySem.W.findIn K (.ref B) "place_that_goes" = some (some (.ref f_PlaceGoes)))
    (i_PlaceGoes : PySem.W.isFn K (.ref f_PlaceGoes) = true)
    (l_PlaceGoes : K.lookup f_PlaceGoes = some ⟨oc_PlaceGoes, od_PlaceGoes, .func (PySem.W.fnOf "place_that_goes" "Row.place_that_goes" (defArgs sPlaceGoes) (defBody sPlaceGoes) (defScope sPlaceGoes) .none kV_PlaceGoes dc_PlaceGoes pm_PlaceGoes an_PlaceGoes cd_PlaceGoes ct_PlaceGoes), sl_PlaceGoes⟩)
    (c_PlaceGoes : PySem.W.codeIn K cd_PlaceGoes "Row.place_that_goes" = true)
    (k_PlaceGoes : PySem.W.keepIn K (.ref f_PlaceGoes) = true)
    (a_PlacesBetween : PySem.W.findIn K (.ref B) "places_between" = some (some (.ref f_PlacesBetween)))
    (i_PlacesBetween : PySem.W.isFn K (.ref f_PlacesBetween) = true)
    (l_PlacesBetween : K.lookup f_PlacesBetween = some ⟨oc_PlacesBetween, od_PlacesBetween, .func (PySem.W.fnOf "places_between" "Row.places_between" (defArgs sPlacesBetween) (defBody sPlacesBetween) (defScope sPlacesBetween) .none kV_PlacesBetween dc_PlacesBetween pm_PlacesBetween an_PlacesBetween cd_PlacesBetween ct_PlacesBetween), sl_PlacesBetween⟩)
    (c_PlacesBetween : PySem.W.codeIn K cd_PlacesBetween "Row.places_between" = true)
    (k_PlacesBetween : PySem.W.keepIn K (.ref f_PlacesBetween) = true)
    (a_Thinned : PySem.W.findIn K (.ref B) "thinned" = some (some (.ref f_Thinned)))
    (i_Thinned : PySem.W.isFn K (.ref f_Thinned) = true)
    (l_Thinned : K.lookup f_Thinned = some ⟨oc_Thinned, od_Thinned, .func (PySem.W.fnOf "thinned" "Row.thinned" (defArgs sThinned) (defBody sThinned) (defScope sThinned) .none kV_Thinned dc_Thinned pm_Thinned an_Thinned cd_Thinned ct_Thinned), sl_Thinned⟩)
    (c_Thinned : PySem.W.codeIn K cd_Thinned "Row.thinned" = true)
    (k_Thinned : PySem.W.keepIn K (.ref f_Thinned) = true)
    (a_RestsBehind : PySem.W.findIn K (.ref B) "rests_behind" = some (some (.ref f_RestsBehind)))
    (i_RestsBehind : PySem.W.isFn K (.ref f_RestsBehind) = true)
    (l_RestsBehind : K.lookup f_RestsBehind = some ⟨oc_RestsBehind, od_RestsBehind, .func (PySem.W.fnOf "rests_behind" "Row.rests_behind" (defArgs sRestsBehind) (defBody sRestsBehind) (defScope sRestsBehind) .none kV_RestsBehind dc_RestsBehind pm_RestsBehind an_RestsBehind cd_RestsBehind ct_RestsBehind), sl_RestsBehind⟩)
    (c_RestsBehind : PySem.W.codeIn K cd_RestsBehind "Row.rests_behind" = true)
    (k_RestsBehind : PySem.W.keepIn K (.ref f_RestsBehind) = true)
    (a_NInit : PySem.W.findIn K (.ref D) "__init__" = some (some (.ref f_NInit)))
    (i_NInit : PySem.W.isFn K (.ref f_NInit) = true)
    (l_NInit : K.lookup f_NInit = some ⟨oc_NInit, od_NInit, .func (PySem.W.fnOf "__init__" "Night.__init__" (defArgs sNInit) (defBody sNInit) (defScope sNInit) .none kV_NInit dc_NInit pm_NInit an_NInit cd_NInit ct_NInit), sl_NInit⟩)
    (c_NInit : PySem.W.codeIn K cd_NInit "Night.__init__" = true)
    (k_NInit : PySem.W.keepIn K (.ref f_NInit) = true)
    (a_Begin : PySem.W.findIn K (.ref D) "begin" = some (some (.ref f_Begin)))
    (i_Begin : PySem.W.isFn K (.ref f_Begin) = true)
    (l_Begin : K.lookup f_Begin = some ⟨oc_Begin, od_Begin, .func (PySem.W.fnOf "begin" "Night.begin" (defArgs sBegin) (defBody sBegin) (defScope sBegin) .none kV_Begin dc_Begin pm_Begin an_Begin cd_Begin ct_Begin), sl_Begin⟩)
    (c_Begin : PySem.W.codeIn K cd_Begin "Night.begin" = true)
    (k_Begin : PySem.W.keepIn K (.ref f_Begin) = true)
    (a_AddShare : PySem.W.findIn K (.ref D) "add_share" = some (some (.ref f_AddShare)))
    (i_AddShare : PySem.W.isFn K (.ref f_AddShare) = true)
    (l_AddShare : K.lookup f_AddShare = some ⟨oc_AddShare, od_AddShare, .func (PySem.W.fnOf "add_share" "Night.add_share" (defArgs sAddShare) (defBody sAddShare) (defScope sAddShare) .none kV_AddShare dc_AddShare pm_AddShare an_AddShare cd_AddShare ct_AddShare), sl_AddShare⟩)
    (c_AddShare : PySem.W.codeIn K cd_AddShare "Night.add_share" = true)
    (k_AddShare : PySem.W.keepIn K (.ref f_AddShare) = true)
    (a_Undo : PySem.W.findIn K (.ref D) "undo" = some (some (.ref f_Undo)))
    (i_Undo : PySem.W.isFn K (.ref f_Undo) = true)
    (l_Undo : K.lookup f_Undo = some ⟨oc_Undo, od_Undo, .func (PySem.W.fnOf "undo" "Night.undo" (defArgs sUndo) (defBody sUndo) (defScope sUndo) .none kV_Undo dc_Undo pm_Undo an_Undo cd_Undo ct_Undo), sl_Undo⟩)
    (c_Undo : PySem.W.codeIn K cd_Undo "Night.undo" = true)
    (k_Undo : PySem.W.keepIn K (.ref f_Undo) = true)
    (a_SetSailors : PySem.W.findIn K (.ref D) "set_sailors" = some (some (.ref f_SetSailors)))
    (i_SetSailors : PySem.W.isFn K (.ref f_SetSailors) = true)
    (l_SetSailors : K.lookup f_SetSailors = some ⟨oc_SetSailors, od_SetSailors, .func (PySem.W.fnOf "set_sailors" "Night.set_sailors" (defArgs sSetSailors) (defBody sSetSailors) (defScope sSetSailors) .none kV_SetSailors dc_SetSailors pm_SetSailors an_SetSailors cd_SetSailors ct_SetSailors), sl_SetSailors⟩)
    (c_SetSailors : PySem.W.codeIn K cd_SetSailors "Night.set_sailors" = true)
    (k_SetSailors : PySem.W.keepIn K (.ref f_SetSailors) = true)
    (a_PartSizes : PySem.W.findIn K (.ref D) "part_sizes" = some (some (.ref f_PartSizes)))
    (i_PartSizes : PySem.W.isFn K (.ref f_PartSizes) = true)
    (l_PartSizes : K.lookup f_PartSizes = some ⟨oc_PartSizes, od_PartSizes, .func (PySem.W.fnOf "part_sizes" "Night.part_sizes" (defArgs sPartSizes) (defBody sPartSizes) (defScope sPartSizes) .none kV_PartSizes dc_PartSizes pm_PartSizes an_PartSizes cd_PartSizes ct_PartSizes), sl_PartSizes⟩)
    (c_PartSizes : PySem.W.codeIn K cd_PartSizes "Night.part_sizes" = true)
    (k_PartSizes : PySem.W.keepIn K (.ref f_PartSizes) = true)
    (a_Goes : PySem.W.findIn K (.ref D) "goes" = some (some (.ref f_Goes)))
    (i_Goes : PySem.W.isFn K (.ref f_Goes) = true)
    (l_Goes : K.lookup f_Goes = some ⟨oc_Goes, od_Goes, .func (PySem.W.fnOf "goes" "Night.goes" (defArgs sGoes) (defBody sGoes) (defScope sGoes) .none kV_Goes dc_Goes pm_Goes an_Goes cd_Goes ct_Goes), sl_Goes⟩)
    (c_Goes : PySem.W.codeIn K cd_Goes "Night.goes" = true)
    (k_Goes : PySem.W.keepIn K (.ref f_Goes) = true)
    (a_Gets : PySem.W.findIn K (.ref D) "gets" = some (some (.ref f_Gets)))
    (i_Gets : PySem.W.isFn K (.ref f_Gets) = true)
    (l_Gets : K.lookup f_Gets = some ⟨oc_Gets, od_Gets, .func (PySem.W.fnOf "gets" "Night.gets" (defArgs sGets) (defBody sGets) (defScope sGets) .none kV_Gets dc_Gets pm_Gets an_Gets cd_Gets ct_Gets), sl_Gets⟩)
    (c_Gets : PySem.W.codeIn K cd_Gets "Night.gets" = true)
    (k_Gets : PySem.W.keepIn K (.ref f_Gets) = true)
    (a_MonkeyGets : PySem.W.findIn K (.ref D) "monkey_gets" = some (some (.ref f_MonkeyGets)))
    (i_MonkeyGets : PySem.W.isFn K (.ref f_MonkeyGets) = true)
    (l_MonkeyGets : K.lookup f_MonkeyGets = some ⟨oc_MonkeyGets, od_MonkeyGets, .func (PySem.W.fnOf "monkey_gets" "Night.monkey_gets" (defArgs sMonkeyGets) (defBody sMonkeyGets) (defScope sMonkeyGets) .none kV_MonkeyGets dc_MonkeyGets pm_MonkeyGets an_MonkeyGets cd_MonkeyGets ct_MonkeyGets), sl_MonkeyGets⟩)
    (c_MonkeyGets : PySem.W.codeIn K cd_MonkeyGets "Night.monkey_gets" = true)
    (k_MonkeyGets : PySem.W.keepIn K (.ref f_MonkeyGets) = true)
    (a_TakenOf : PySem.W.findIn K (.ref D) "taken_of" = some (some (.ref f_TakenOf)))
    (i_TakenOf : PySem.W.isFn K (.ref f_TakenOf) = true)
    (l_TakenOf : K.lookup f_TakenOf = some ⟨oc_TakenOf, od_TakenOf, .func (PySem.W.fnOf "taken_of" "Night.taken_of" (defArgs sTakenOf) (defBody sTakenOf) (defScope sTakenOf) .none kV_TakenOf dc_TakenOf pm_TakenOf an_TakenOf cd_TakenOf ct_TakenOf), sl_TakenOf⟩)
    (c_TakenOf : PySem.W.codeIn K cd_TakenOf "Night.taken_of" = true)
    (k_TakenOf : PySem.W.keepIn K (.ref f_TakenOf) = true)
    (a_LeftOf : PySem.W.findIn K (.ref D) "left_of" = some (some (.ref f_LeftOf)))
    (i_LeftOf : PySem.W.isFn K (.ref f_LeftOf) = true)
    (l_LeftOf : K.lookup f_LeftOf = some ⟨oc_LeftOf, od_LeftOf, .func (PySem.W.fnOf "left_of" "Night.left_of" (defArgs sLeftOf) (defBody sLeftOf) (defScope sLeftOf) .none kV_LeftOf dc_LeftOf pm_LeftOf an_LeftOf cd_LeftOf ct_LeftOf), sl_LeftOf⟩)
    (c_LeftOf : PySem.W.codeIn K cd_LeftOf "Night.left_of" = true)
    (k_LeftOf : PySem.W.keepIn K (.ref f_LeftOf) = true)
    (a_GoingHeaps : PySem.W.findIn K (.ref D) "going_heaps" = some (some (.ref f_GoingHeaps)))
    (i_GoingHeaps : PySem.W.isFn K (.ref f_GoingHeaps) = true)
    (l_GoingHeaps : K.lookup f_GoingHeaps = some ⟨oc_GoingHeaps, od_GoingHeaps, .func (PySem.W.fnOf "going_heaps" "Night.going_heaps" (defArgs sGoingHeaps) (defBody sGoingHeaps) (defScope sGoingHeaps) .none kV_GoingHeaps dc_GoingHeaps pm_GoingHeaps an_GoingHeaps cd_GoingHeaps ct_GoingHeaps), sl_GoingHeaps⟩)
    (c_GoingHeaps : PySem.W.codeIn K cd_GoingHeaps "Night.going_heaps" = true)
    (k_GoingHeaps : PySem.W.keepIn K (.ref f_GoingHeaps) = true)
    (a_Least : PySem.W.findIn K (.ref D) "least" = some (some (.ref f_Least)))
    (i_Least : PySem.W.isFn K (.ref f_Least) = true)
    (l_Least : K.lookup f_Least = some ⟨oc_Least, od_Least, .func (PySem.W.fnOf "least" "Night.least" (defArgs sLeast) (defBody sLeast) (defScope sLeast) .none kV_Least dc_Least pm_Least an_Least cd_Least ct_Least), sl_Least⟩)
    (c_Least : PySem.W.codeIn K cd_Least "Night.least" = true)
    (k_Least : PySem.W.keepIn K (.ref f_Least) = true)
    (a_Every : PySem.W.findIn K (.ref D) "every" = some (some (.ref f_Every)))
    (i_Every : PySem.W.isFn K (.ref f_Every) = true)
    (l_Every : K.lookup f_Every = some ⟨oc_Every, od_Every, .func (PySem.W.fnOf "every" "Night.every" (defArgs sEvery) (defBody sEvery) (defScope sEvery) .none kV_Every dc_Every pm_Every an_Every cd_Every ct_Every), sl_Every⟩)
    (c_Every : PySem.W.codeIn K cd_Every "Night.every" = true)
    (k_Every : PySem.W.keepIn K (.ref f_Every) = true)
    (a_CountGoing : PySem.W.findIn K (.ref D) "count_going" = some (some (.ref f_CountGoing)))
    (i_CountGoing : PySem.W.isFn K (.ref f_CountGoing) = true)
    (l_CountGoing : K.lookup f_CountGoing = some ⟨oc_CountGoing, od_CountGoing, .func (PySem.W.fnOf "count_going" "Night.count_going" (defArgs sCountGoing) (defBody sCountGoing) (defScope sCountGoing) .none kV_CountGoing dc_CountGoing pm_CountGoing an_CountGoing cd_CountGoing ct_CountGoing), sl_CountGoing⟩)
    (c_CountGoing : PySem.W.codeIn K cd_CountGoing "Night.count_going" = true)
    (k_CountGoing : PySem.W.keepIn K (.ref f_CountGoing) = true)
    (a_Richest : PySem.W.findIn K (.ref D) "richest" = some (some (.ref f_Richest)))
    (i_Richest : PySem.W.isFn K (.ref f_Richest) = true)
    (l_Richest : K.lookup f_Richest = some ⟨oc_Richest, od_Richest, .func (PySem.W.fnOf "richest" "Night.richest" (defArgs sRichest) (defBody sRichest) (defScope sRichest) .none kV_Richest dc_Richest pm_Richest an_Richest cd_Richest ct_Richest), sl_Richest⟩)
    (c_Richest : PySem.W.codeIn K cd_Richest "Night.richest" = true)
    (k_Richest : PySem.W.keepIn K (.ref f_Richest) = true)
    (a_Back : PySem.W.findIn K (.ref D) "back" = some (some (.ref f_Back)))
    (i_Back : PySem.W.isFn K (.ref f_Back) = true)
    (l_Back : K.lookup f_Back = some ⟨oc_Back, od_Back, .func (PySem.W.fnOf "back" "Night.back" (defArgs sBack) (defBody sBack) (defScope sBack) .none kV_Back dc_Back pm_Back an_Back cd_Back ct_Back), sl_Back⟩)
    (c_Back : PySem.W.codeIn K cd_Back "Night.back" = true)
    (k_Back : PySem.W.keepIn K (.ref f_Back) = true)
    (a_Last : PySem.W.findIn K (.ref D) "last" = some (some (.ref f_Last)))
    (i_Last : PySem.W.isFn K (.ref f_Last) = true)
    (l_Last : K.lookup f_Last = some ⟨oc_Last, od_Last, .func (PySem.W.fnOf "last" "Night.last" (defArgs sLast) (defBody sLast) (defScope sLast) .none kV_Last dc_Last pm_Last an_Last cd_Last ct_Last), sl_Last⟩)
    (c_Last : PySem.W.codeIn K cd_Last "Night.last" = true)
    (k_Last : PySem.W.keepIn K (.ref f_Last) = true)
    (a_IsParts : PySem.W.nsIn K mainGlobals "is_parts" = some (some (.ref f_IsParts)))
    (l_IsParts : K.lookup f_IsParts = some ⟨oc_IsParts, od_IsParts, .func (PySem.W.fnOf "is_parts" "is_parts" (defArgs sIsParts) (defBody sIsParts) (defScope sIsParts) .none kV_IsParts dc_IsParts pm_IsParts an_IsParts cd_IsParts ct_IsParts), sl_IsParts⟩)
    (c_IsParts : PySem.W.codeIn K cd_IsParts "is_parts" = true)
    (k_IsParts : PySem.W.keepIn K (.ref f_IsParts) = true)
    (a_IsShare : PySem.W.nsIn K mainGlobals "is_share" = some (some (.ref f_IsShare)))
    (l_IsShare : K.lookup f_IsShare = some ⟨oc_IsShare, od_IsShare, .func (PySem.W.fnOf "is_share" "is_share" (defArgs sIsShare) (defBody sIsShare) (defScope sIsShare) .none kV_IsShare dc_IsShare pm_IsShare an_IsShare cd_IsShare ct_IsShare), sl_IsShare⟩)
    (c_IsShare : PySem.W.codeIn K cd_IsShare "is_share" = true)
    (k_IsShare : PySem.W.keepIn K (.ref f_IsShare) = true)
    (a_RoundedUp : PySem.W.nsIn K mainGlobals "rounded_up" = some (some (.ref f_RoundedUp)))
    (l_RoundedUp : K.lookup f_RoundedUp = some ⟨oc_RoundedUp, od_RoundedUp, .func (PySem.W.fnOf "rounded_up" "rounded_up" (defArgs sRoundedUp) (defBody sRoundedUp) (defScope sRoundedUp) .none kV_RoundedUp dc_RoundedUp pm_RoundedUp an_RoundedUp cd_RoundedUp ct_RoundedUp), sl_RoundedUp⟩)
    (c_RoundedUp : PySem.W.codeIn K cd_RoundedUp "rounded_up" = true)
    (k_RoundedUp : PySem.W.keepIn K (.ref f_RoundedUp) = true)
    (a_RowThrough : PySem.W.nsIn K mainGlobals "row_through" = some (some (.ref f_RowThrough)))
    (l_RowThrough : K.lookup f_RowThrough = some ⟨oc_RowThrough, od_RowThrough, .func (PySem.W.fnOf "row_through" "row_through" (defArgs sRowThrough) (defBody sRowThrough) (defScope sRowThrough) .none kV_RowThrough dc_RowThrough pm_RowThrough an_RowThrough cd_RowThrough ct_RowThrough), sl_RowThrough⟩)
    (c_RowThrough : PySem.W.codeIn K cd_RowThrough "row_through" = true)
    (k_RowThrough : PySem.W.keepIn K (.ref f_RowThrough) = true)
    (a_AnswerCall : PySem.W.nsIn K mainGlobals "answer_call" = some (some (.ref f_AnswerCall)))
    (l_AnswerCall : K.lookup f_AnswerCall = some ⟨oc_AnswerCall, od_AnswerCall, .func (PySem.W.fnOf "answer_call" "answer_call" (defArgs sAnswerCall) (defBody sAnswerCall) (defScope sAnswerCall) .none kV_AnswerCall dc_AnswerCall pm_AnswerCall an_AnswerCall cd_AnswerCall ct_AnswerCall), sl_AnswerCall⟩)
    (c_AnswerCall : PySem.W.codeIn K cd_AnswerCall "answer_call" = true)
    (k_AnswerCall : PySem.W.keepIn K (.ref f_AnswerCall) = true)
    (a_Answers : PySem.W.nsIn K mainGlobals "answers" = some (some (.ref f_Answers)))
    (l_Answers : K.lookup f_Answers = some ⟨oc_Answers, od_Answers, .func (PySem.W.fnOf "answers" "answers" (defArgs sAnswers) (defBody sAnswers) (defScope sAnswers) .none kV_Answers dc_Answers pm_Answers an_Answers cd_Answers ct_Answers), sl_Answers⟩)
    (c_Answers : PySem.W.codeIn K cd_Answers "answers" = true)
    (k_Answers : PySem.W.keepIn K (.ref f_Answers) = true)
    (pgC : PySem.W.plainGet K C Str.empty = true)
    (hdC : PySem.W.hasDictIn K C = true)
    (poC : PySem.W.plainOver K C = true)
    (saC : PySem.W.findIn K (.ref C) "__setattr__" = some (some (.builtin "object.__setattr__")))
    (mkC : PySem.W.makesIn K C = true)
    (kcC : PySem.W.keepIn K (.ref C) = true)
    (nC_parts : PySem.W.findIn K (.ref C) "parts" = some none)
    (nC_over : PySem.W.findIn K (.ref C) "over" = some none)
    (nC_taken : PySem.W.findIn K (.ref C) "taken" = some none)
    (pgB : PySem.W.plainGet K B Str.empty = true)
    (hdB : PySem.W.hasDictIn K B = true)
    (poB : PySem.W.plainOver K B = true)
    (saB : PySem.W.findIn K (.ref B) "__setattr__" = some (some (.builtin "object.__setattr__")))
    (mkB : PySem.W.makesIn K B = true)
    (kcB : PySem.W.keepIn K (.ref B) = true)
    (nB_first : PySem.W.findIn K (.ref B) "first" = some none)
    (nB_step : PySem.W.findIn K (.ref B) "step" = some none)
    (pgD : PySem.W.plainGet K D Str.empty = true)
    (hdD : PySem.W.hasDictIn K D = true)
    (poD : PySem.W.plainOver K D = true)
    (saD : PySem.W.findIn K (.ref D) "__setattr__" = some (some (.builtin "object.__setattr__")))
    (mkD : PySem.W.makesIn K D = true)
    (kcD : PySem.W.keepIn K (.ref D) = true)
    (nD_shares : PySem.W.findIn K (.ref D) "shares" = some none)
    (g_MOST_SHARES : PySem.W.nsIn K mainGlobals "MOST_SHARES" = some (some (.int (10) t_MOST_SHARES)))
    (g_LEAST_PARTS : PySem.W.nsIn K mainGlobals "LEAST_PARTS" = some (some (.int (2) t_LEAST_PARTS)))
    (g_MOST_PARTS : PySem.W.nsIn K mainGlobals "MOST_PARTS" = some (some (.int (9) t_MOST_PARTS)))
    (g_LEAST_DIVISOR : PySem.W.nsIn K mainGlobals "LEAST_DIVISOR" = some (some (.int (1) t_LEAST_DIVISOR)))
    (g_MOST_DIVISOR : PySem.W.nsIn K mainGlobals "MOST_DIVISOR" = some (some (.int (20) t_MOST_DIVISOR)))
    (g_WRONG_NUMBER : PySem.W.nsIn K mainGlobals "WRONG_NUMBER" = some (some (.int (-1) t_WRONG_NUMBER)))
    (g_DOES_NOT_GO : PySem.W.nsIn K mainGlobals "DOES_NOT_GO" = some (some (.int (-3) t_DOES_NOT_GO)))
    (g_NEVER_SO_MUCH : PySem.W.nsIn K mainGlobals "NEVER_SO_MUCH" = some (some (.int (-4) t_NEVER_SO_MUCH)))
    (g_TOO_MANY_SHARES : PySem.W.nsIn K mainGlobals "TOO_MANY_SHARES" = some (some (.int (-5) t_TOO_MANY_SHARES)))
    (g_NO_HEAP : PySem.W.nsIn K mainGlobals "NO_HEAP" = some (some (.int (-6) t_NO_HEAP)))
    (g_ALL_TAKEN : PySem.W.nsIn K mainGlobals "ALL_TAKEN" = some (some (.int (-7) t_ALL_TAKEN)))
    (g_NO_SHARE : PySem.W.nsIn K mainGlobals "NO_SHARE" = some (some (.int (-9) t_NO_SHARE)))
    (g_NIGHT : PySem.W.nsIn K mainGlobals "NIGHT" = some (some (.int (0) t_NIGHT)))
    (g_SHARE : PySem.W.nsIn K mainGlobals "SHARE" = some (some (.int (1) t_SHARE)))
    (g_UNDO : PySem.W.nsIn K mainGlobals "UNDO" = some (some (.int (2) t_UNDO)))
    (g_SAILORS : PySem.W.nsIn K mainGlobals "SAILORS" = some (some (.int (3) t_SAILORS)))
    (g_GOES : PySem.W.nsIn K mainGlobals "GOES" = some (some (.int (4) t_GOES)))
    (g_GETS : PySem.W.nsIn K mainGlobals "GETS" = some (some (.int (5) t_GETS)))
    (g_LEAST : PySem.W.nsIn K mainGlobals "LEAST" = some (some (.int (6) t_LEAST)))
    (g_EVERY : PySem.W.nsIn K mainGlobals "EVERY" = some (some (.int (7) t_EVERY)))
    (g_COUNT : PySem.W.nsIn K mainGlobals "COUNT" = some (some (.int (8) t_COUNT)))
    (g_RICHEST : PySem.W.nsIn K mainGlobals "RICHEST" = some (some (.int (9) t_RICHEST)))
    (g_BACK : PySem.W.nsIn K mainGlobals "BACK" = some (some (.int (10) t_BACK)))
    (z_len : PySem.W.nsIn K mainGlobals "len" = some none)
    (z_range : PySem.W.nsIn K mainGlobals "range" = some none)
    (z_zip : PySem.W.nsIn K mainGlobals "zip" = some none)
    (z_sum : PySem.W.nsIn K mainGlobals "sum" = some none)
    (z_set : PySem.W.nsIn K mainGlobals "set" = some none)
    (z_sorted : PySem.W.nsIn K mainGlobals "sorted" = some none)
    (z_any : PySem.W.nsIn K mainGlobals "any" = some none)
    (z_reversed : PySem.W.nsIn K mainGlobals "reversed" = some none)
    (g_NUMBERS_BEHIND : PySem.W.nsIn K mainGlobals "NUMBERS_BEHIND" = some (some (.ref w_NUMBERS_BEHIND)))
    (l_NUMBERS_BEHIND : K.lookup w_NUMBERS_BEHIND = some ⟨.type "tuple", od_NUMBERS_BEHIND, .seq #[.int (0) u0_NUMBERS_BEHIND, .int (3) u1_NUMBERS_BEHIND, .int (0) u2_NUMBERS_BEHIND, .int (1) u3_NUMBERS_BEHIND, .int (1) u4_NUMBERS_BEHIND, .int (1) u5_NUMBERS_BEHIND, .int (1) u6_NUMBERS_BEHIND, .int (0) u7_NUMBERS_BEHIND, .int (1) u8_NUMBERS_BEHIND, .int (2) u9_NUMBERS_BEHIND, .int (1) u10_NUMBERS_BEHIND, .int (1) u11_NUMBERS_BEHIND] nn_NUMBERS_BEHIND, sl_NUMBERS_BEHIND⟩)
    : ∃ fd : FuncData, (∀ (s : Shared) (us : List Value), us.length = (["calls"] : List Str).length → BindsTo s fd ⟨us, []⟩ ((["calls"] : List Str).zip us)) ∧ ∀ base : Heap, K.In base → base.Ns mainGlobals mg → FnOk P w K mg base CX0 7 fa fd ["calls"] (spAnswers K) := by
  have e := hfa.symm.trans (PySem.W.mg_of X G a_Answers)
  cases e
  have F_ShInit := fun_mk (st := sShInit) l_ShInit c_ShInit k_ShInit
  have b_ShInit := F_ShInit.binds (ps := ["self", "parts", "over", "taken"]) fun _ _ _ _ _ _ us hl => match us, hl with | [_, _, _, _], _ => rfl
  have F_GoesWith := fun_mk (st := sGoesWith) l_GoesWith c_GoesWith k_GoesWith
  have b_GoesWith := F_GoesWith.binds (ps := ["self", "heap"]) fun _ _ _ _ _ _ us hl => match us, hl with | [_, _], _ => rfl
  have F_PartSize := fun_mk (st := sPartSize) l_PartSize c_PartSize k_PartSize
  have b_PartSize := F_PartSize.binds (ps := ["self", "heap"]) fun _ _ _ _ _ _ us hl => match us, hl with | [_, _], _ => rfl
  have F_HeapBehind := fun_mk (st := sHeapBehind) l_HeapBehind c_HeapBehind k_HeapBehind
  have b_HeapBehind := F_HeapBehind.binds (ps := ["self", "size"]) fun _ _ _ _ _ _ us hl => match us, hl with | [_, _], _ => rfl
  have F_TakesAll := fun_mk (st := sTakesAll) l_TakesAll c_TakesAll k_TakesAll
  have b_TakesAll := F_TakesAll.binds (ps := ["self"]) fun _ _ _ _ _ _ us hl => match us, hl with | [_], _ => rfl
  have F_HeapAhead := fun_mk (st := sHeapAhead) l_HeapAhead c_HeapAhead k_HeapAhead
  have b_HeapAhead := F_HeapAhead.binds (ps := ["self", "rest"]) fun _ _ _ _ _ _ us hl => match us, hl with | [_, _], _ => rfl
  have F_RowInit := fun_mk (st := sRowInit) l_RowInit c_RowInit k_RowInit
  have b_RowInit := F_RowInit.binds (ps := ["self", "first", "step"]) fun _ _ _ _ _ _ us hl => match us, hl with | [_, _, _], _ => rfl
  have F_Number := fun_mk (st := sNumber) l_Number c_Number k_Number
  have b_Number := F_Number.binds (ps := ["self", "place"]) fun _ _ _ _ _ _ us hl => match us, hl with | [_, _], _ => rfl
  have F_PlaceFrom := fun_mk (st := sPlaceFrom) l_PlaceFrom c_PlaceFrom k_PlaceFrom
  have b_PlaceFrom := F_PlaceFrom.binds (ps := ["self", "bound"]) fun _ _ _ _ _ _ us hl => match us, hl with | [_, _], _ => rfl
  have F_CountTo := fun_mk (st := sCountTo) l_CountTo c_CountTo k_CountTo
  have b_CountTo := F_CountTo.binds (ps := ["self", "bound"]) fun _ _ _ _ _ _ us hl => match us, hl with | [_, _], _ => rfl
  have F_Leaves := fun_mk (st := sLeaves) l_Leaves c_Leaves k_Leaves
  have b_Leaves := F_Leaves.binds (ps := ["self", "divisor"]) fun _ _ _ _ _ _ us hl => match us, hl with | [_, _], _ => rfl
  have F_PlaceGoes := fun_mk (st := sPlaceGoes) l_PlaceGoes c_PlaceGoes k_PlaceGoes
  have b_PlaceGoes := F_PlaceGoes.binds (ps := ["self", "share"]) fun _ _ _ _ _ _ us hl => match us, hl with | [_, _], _ => rfl
  have F_PlacesBetween := fun_mk (st := sPlacesBetween) l_PlacesBetween c_PlacesBetween k_PlacesBetween
  have b_PlacesBetween := F_PlacesBetween.binds (ps := ["self", "share"]) fun _ _ _ _ _ _ us hl => match us, hl with | [_, _], _ => rfl
  have F_Thinned := fun_mk (st := sThinned) l_Thinned c_Thinned k_Thinned
  have b_Thinned := F_Thinned.binds (ps := ["self", "place", "places"]) fun _ _ _ _ _ _ us hl => match us, hl with | [_, _, _], _ => rfl
  have F_RestsBehind := fun_mk (st := sRestsBehind) l_RestsBehind c_RestsBehind k_RestsBehind
  have b_RestsBehind := F_RestsBehind.binds (ps := ["self", "share"]) fun _ _ _ _ _ _ us hl => match us, hl with | [_, _], _ => rfl
  have F_NInit := fun_mk (st := sNInit) l_NInit c_NInit k_NInit
  have b_NInit := F_NInit.binds (ps := ["self"]) fun _ _ _ _ _ _ us hl => match us, hl with | [_], _ => rfl
  have F_Begin := fun_mk (st := sBegin) l_Begin c_Begin k_Begin
  have b_Begin := F_Begin.binds (ps := ["self"]) fun _ _ _ _ _ _ us hl => match us, hl with | [_], _ => rfl
  have F_AddShare := fun_mk (st := sAddShare) l_AddShare c_AddShare k_AddShare
  have b_AddShare := F_AddShare.binds (ps := ["self", "parts", "over", "taken"]) fun _ _ _ _ _ _ us hl => match us, hl with | [_, _, _, _], _ => rfl
  have F_Undo := fun_mk (st := sUndo) l_Undo c_Undo k_Undo
  have b_Undo := F_Undo.binds (ps := ["self"]) fun _ _ _ _ _ _ us hl => match us, hl with | [_], _ => rfl
  have F_SetSailors := fun_mk (st := sSetSailors) l_SetSailors c_SetSailors k_SetSailors
  have b_SetSailors := F_SetSailors.binds (ps := ["self", "sailors"]) fun _ _ _ _ _ _ us hl => match us, hl with | [_, _], _ => rfl
  have F_PartSizes := fun_mk (st := sPartSizes) l_PartSizes c_PartSizes k_PartSizes
  have b_PartSizes := F_PartSizes.binds (ps := ["self", "heap"]) fun _ _ _ _ _ _ us hl => match us, hl with | [_, _], _ => rfl
  have F_Goes := fun_mk (st := sGoes) l_Goes c_Goes k_Goes
  have b_Goes := F_Goes.binds (ps := ["self", "heap"]) fun _ _ _ _ _ _ us hl => match us, hl with | [_, _], _ => rfl
  have F_Gets := fun_mk (st := sGets) l_Gets c_Gets k_Gets
  have b_Gets := F_Gets.binds (ps := ["self", "heap"]) fun _ _ _ _ _ _ us hl => match us, hl with | [_, _], _ => rfl
  have F_MonkeyGets := fun_mk (st := sMonkeyGets) l_MonkeyGets c_MonkeyGets k_MonkeyGets
  have b_MonkeyGets := F_MonkeyGets.binds (ps := ["self"]) fun _ _ _ _ _ _ us hl => match us, hl with | [_], _ => rfl
  have F_TakenOf := fun_mk (st := sTakenOf) l_TakenOf c_TakenOf k_TakenOf
  have b_TakenOf := F_TakenOf.binds (ps := ["self", "heap"]) fun _ _ _ _ _ _ us hl => match us, hl with | [_, _], _ => rfl
  have F_LeftOf := fun_mk (st := sLeftOf) l_LeftOf c_LeftOf k_LeftOf
  have b_LeftOf := F_LeftOf.binds (ps := ["self", "heap"]) fun _ _ _ _ _ _ us hl => match us, hl with | [_, _], _ => rfl
  have F_GoingHeaps := fun_mk (st := sGoingHeaps) l_GoingHeaps c_GoingHeaps k_GoingHeaps
  have b_GoingHeaps := F_GoingHeaps.binds (ps := ["self"]) fun _ _ _ _ _ _ us hl => match us, hl with | [_], _ => rfl
  have F_Least := fun_mk (st := sLeast) l_Least c_Least k_Least
  have b_Least := F_Least.binds (ps := ["self", "bound"]) fun _ _ _ _ _ _ us hl => match us, hl with | [_, _], _ => rfl
  have F_Every := fun_mk (st := sEvery) l_Every c_Every k_Every
  have b_Every := F_Every.binds (ps := ["self"]) fun _ _ _ _ _ _ us hl => match us, hl with | [_], _ => rfl
  have F_CountGoing := fun_mk (st := sCountGoing) l_CountGoing c_CountGoing k_CountGoing
  have b_CountGoing := F_CountGoing.binds (ps := ["self", "bound"]) fun _ _ _ _ _ _ us hl => match us, hl with | [_, _], _ => rfl
  have F_Richest := fun_mk (st := sRichest) l_Richest c_Richest k_Richest
  have b_Richest := F_Richest.binds (ps := ["self", "bound", "index"]) fun _ _ _ _ _ _ us hl => match us, hl with | [_, _, _], _ => rfl
  have F_Back := fun_mk (st := sBack) l_Back c_Back k_Back
  have b_Back := F_Back.binds (ps := ["self", "left"]) fun _ _ _ _ _ _ us hl => match us, hl with | [_, _], _ => rfl
  have F_Last := fun_mk (st := sLast) l_Last c_Last k_Last
  have b_Last := F_Last.binds (ps := ["self", "divisor"]) fun _ _ _ _ _ _ us hl => match us, hl with | [_, _], _ => rfl
  have F_IsParts := fun_mk (st := sIsParts) l_IsParts c_IsParts k_IsParts
  have b_IsParts := F_IsParts.binds (ps := ["number"]) fun _ _ _ _ _ _ us hl => match us, hl with | [_], _ => rfl
  have F_IsShare := fun_mk (st := sIsShare) l_IsShare c_IsShare k_IsShare
  have b_IsShare := F_IsShare.binds (ps := ["parts", "over", "taken"]) fun _ _ _ _ _ _ us hl => match us, hl with | [_, _, _], _ => rfl
  have F_RoundedUp := fun_mk (st := sRoundedUp) l_RoundedUp c_RoundedUp k_RoundedUp
  have b_RoundedUp := F_RoundedUp.binds (ps := ["number", "divisor"]) fun _ _ _ _ _ _ us hl => match us, hl with | [_, _], _ => rfl
  have F_RowThrough := fun_mk (st := sRowThrough) l_RowThrough c_RowThrough k_RowThrough
  have b_RowThrough := F_RowThrough.binds (ps := ["first", "second"]) fun _ _ _ _ _ _ us hl => match us, hl with | [_, _], _ => rfl
  have F_AnswerCall := fun_mk (st := sAnswerCall) l_AnswerCall c_AnswerCall k_AnswerCall
  have b_AnswerCall := F_AnswerCall.binds (ps := ["night", "call", "numbers"]) fun _ _ _ _ _ _ us hl => match us, hl with | [_, _, _], _ => rfl
  have F_Answers := fun_mk (st := sAnswers) l_Answers c_Answers k_Answers
  have b_Answers := F_Answers.binds (ps := ["calls"]) fun _ _ _ _ _ _ us hl => match us, hl with | [_], _ => rfl
  have m_MOST_SHARES : ∃ t, mg "MOST_SHARES" = some (.int (10) t) := ⟨_, PySem.W.mg_of X G g_MOST_SHARES⟩
  have m_LEAST_PARTS : ∃ t, mg "LEAST_PARTS" = some (.int (2) t) := ⟨_, PySem.W.mg_of X G g_LEAST_PARTS⟩
  have m_MOST_PARTS : ∃ t, mg "MOST_PARTS" = some (.int (9) t) := ⟨_, PySem.W.mg_of X G g_MOST_PARTS⟩
  have m_LEAST_DIVISOR : ∃ t, mg "LEAST_DIVISOR" = some (.int (1) t) := ⟨_, PySem.W.mg_of X G g_LEAST_DIVISOR⟩
  have m_MOST_DIVISOR : ∃ t, mg "MOST_DIVISOR" = some (.int (20) t) := ⟨_, PySem.W.mg_of X G g_MOST_DIVISOR⟩
  have m_WRONG_NUMBER : ∃ t, mg "WRONG_NUMBER" = some (.int (-1) t) := ⟨_, PySem.W.mg_of X G g_WRONG_NUMBER⟩
  have m_DOES_NOT_GO : ∃ t, mg "DOES_NOT_GO" = some (.int (-3) t) := ⟨_, PySem.W.mg_of X G g_DOES_NOT_GO⟩
  have m_NEVER_SO_MUCH : ∃ t, mg "NEVER_SO_MUCH" = some (.int (-4) t) := ⟨_, PySem.W.mg_of X G g_NEVER_SO_MUCH⟩
  have m_TOO_MANY_SHARES : ∃ t, mg "TOO_MANY_SHARES" = some (.int (-5) t) := ⟨_, PySem.W.mg_of X G g_TOO_MANY_SHARES⟩
  have m_NO_HEAP : ∃ t, mg "NO_HEAP" = some (.int (-6) t) := ⟨_, PySem.W.mg_of X G g_NO_HEAP⟩
  have m_ALL_TAKEN : ∃ t, mg "ALL_TAKEN" = some (.int (-7) t) := ⟨_, PySem.W.mg_of X G g_ALL_TAKEN⟩
  have m_NO_SHARE : ∃ t, mg "NO_SHARE" = some (.int (-9) t) := ⟨_, PySem.W.mg_of X G g_NO_SHARE⟩
  have m_NIGHT : ∃ t, mg "NIGHT" = some (.int (0) t) := ⟨_, PySem.W.mg_of X G g_NIGHT⟩
  have m_SHARE : ∃ t, mg "SHARE" = some (.int (1) t) := ⟨_, PySem.W.mg_of X G g_SHARE⟩
  have m_UNDO : ∃ t, mg "UNDO" = some (.int (2) t) := ⟨_, PySem.W.mg_of X G g_UNDO⟩
  have m_SAILORS : ∃ t, mg "SAILORS" = some (.int (3) t) := ⟨_, PySem.W.mg_of X G g_SAILORS⟩
  have m_GOES : ∃ t, mg "GOES" = some (.int (4) t) := ⟨_, PySem.W.mg_of X G g_GOES⟩
  have m_GETS : ∃ t, mg "GETS" = some (.int (5) t) := ⟨_, PySem.W.mg_of X G g_GETS⟩
  have m_LEAST : ∃ t, mg "LEAST" = some (.int (6) t) := ⟨_, PySem.W.mg_of X G g_LEAST⟩
  have m_EVERY : ∃ t, mg "EVERY" = some (.int (7) t) := ⟨_, PySem.W.mg_of X G g_EVERY⟩
  have m_COUNT : ∃ t, mg "COUNT" = some (.int (8) t) := ⟨_, PySem.W.mg_of X G g_COUNT⟩
  have m_RICHEST : ∃ t, mg "RICHEST" = some (.int (9) t) := ⟨_, PySem.W.mg_of X G g_RICHEST⟩
  have m_BACK : ∃ t, mg "BACK" = some (.int (10) t) := ⟨_, PySem.W.mg_of X G g_BACK⟩
  have e_len := PySem.W.mg_none_of X G z_len
  have e_range := PySem.W.mg_none_of X G z_range
  have e_zip := PySem.W.mg_none_of X G z_zip
  have e_sum := PySem.W.mg_none_of X G z_sum
  have e_set := PySem.W.mg_none_of X G z_set
  have e_sorted := PySem.W.mg_none_of X G z_sorted
  have e_any := PySem.W.mg_none_of X G z_any
  have e_reversed := PySem.W.mg_none_of X G z_reversed
  have T : Txt K mg C D := ⟨⟨pgC, hdC, poC, saC⟩, ⟨pgD, hdD, poD, saD⟩, nC_parts, nC_over, nC_taken, nD_shares, PySem.W.mg_of X G aC, PySem.W.mg_of X G aD, e_len, e_range, e_zip, e_sum, m_MOST_SHARES, m_LEAST_PARTS, m_MOST_PARTS, m_WRONG_NUMBER, m_DOES_NOT_GO, m_TOO_MANY_SHARES, m_NO_SHARE⟩
  have TB : TxtB K mg B := ⟨⟨pgB, hdB, poB, saB⟩, nB_first, nB_step, PySem.W.mg_of X G aB, e_set, e_sorted, e_any, e_reversed, m_LEAST_DIVISOR, m_MOST_DIVISOR, m_NEVER_SO_MUCH, m_NO_HEAP, m_ALL_TAKEN⟩
  have U : Nums mg := ⟨m_NIGHT, m_SHARE, m_UNDO, m_SAILORS, m_GOES, m_GETS, m_LEAST, m_EVERY, m_COUNT, m_RICHEST, m_BACK⟩
  refine ⟨PySem.W.fnOf "answers" "answers" (defArgs sAnswers) (defBody sAnswers) (defScope sAnswers) .none kV_Answers dc_Answers pm_Answers an_Answers cd_Answers ct_Answers, fun s us hu => match us, hu with | [_], _ => .of_eq rfl, fun base _ _ => ?_⟩
  have M_ShInit : MakeOk P w K mg base C 1 ["self", "parts", "over", "taken"] (spShInit C) := ⟨_, _, ok_shInit F_ShInit T, b_ShInit, ⟨mkC, a_ShInit, i_ShInit, kcC⟩⟩
  have M_NInit : MakeOk P w K mg base D 1 ["self"] (spNInit C D) := ⟨_, _, ok_nInit F_NInit T, b_NInit, ⟨mkD, a_NInit, i_NInit, kcD⟩⟩
  have M_RowInit : MakeOk P w K mg base B 1 ["self", "first", "step"] (spRowInit B) := ⟨_, _, ok_rowInit F_RowInit TB, b_RowInit, ⟨mkB, a_RowInit, i_RowInit, kcB⟩⟩
  have M_GoesWith : MethOk P w K mg base C "goes_with" 1 ["self", "heap"] (spGoesWith C) := ⟨_, _, ok_goesWith F_GoesWith T, b_GoesWith, ⟨a_GoesWith, i_GoesWith, k_GoesWith⟩⟩
  have M_PartSize : MethOk P w K mg base C "part_size" 1 ["self", "heap"] (spPartSize C) := ⟨_, _, ok_partSize F_PartSize T, b_PartSize, ⟨a_PartSize, i_PartSize, k_PartSize⟩⟩
  have M_HeapBehind : MethOk P w K mg base C "heap_behind" 1 ["self", "size"] (spHeapBehind C) := ⟨_, _, ok_heapBehind F_HeapBehind T, b_HeapBehind, ⟨a_HeapBehind, i_HeapBehind, k_HeapBehind⟩⟩
  have M_TakesAll : MethOk P w K mg base C "takes_all" 1 ["self"] (spTakesAll C) := ⟨_, _, ok_takesAll F_TakesAll T, b_TakesAll, ⟨a_TakesAll, i_TakesAll, k_TakesAll⟩⟩
  have M_HeapAhead : MethOk P w K mg base C "heap_ahead" 1 ["self", "rest"] (spHeapAhead C) := ⟨_, _, ok_heapAhead F_HeapAhead T, b_HeapAhead, ⟨a_HeapAhead, i_HeapAhead, k_HeapAhead⟩⟩
  have M_IsParts : DefOk P w K mg base "is_parts" 1 ["number"] (spIsParts) := ⟨_, _, ok_isParts F_IsParts T, b_IsParts, PySem.W.mg_of X G a_IsParts, k_IsParts⟩
  have M_IsShare : DefOk P w K mg base "is_share" 2 ["parts", "over", "taken"] (spIsShare) := ⟨_, _, ok_isShare F_IsShare T M_IsParts, b_IsShare, PySem.W.mg_of X G a_IsShare, k_IsShare⟩
  have M_RoundedUp : DefOk P w K mg base "rounded_up" 1 ["number", "divisor"] (spRoundedUp) := ⟨_, _, ok_roundedUp F_RoundedUp, b_RoundedUp, PySem.W.mg_of X G a_RoundedUp, k_RoundedUp⟩
  have M_RowThrough : DefOk P w K mg base "row_through" 3 ["first", "second"] (spRowThrough B) := ⟨_, _, ok_rowThrough F_RowThrough TB M_RowInit, b_RowThrough, PySem.W.mg_of X G a_RowThrough, k_RowThrough⟩
  have M_Number : MethOk P w K mg base B "number" 1 ["self", "place"] (spNumber B) := ⟨_, _, ok_number F_Number TB, b_Number, ⟨a_Number, i_Number, k_Number⟩⟩
  have M_PlaceFrom : MethOk P w K mg base B "place_from" 2 ["self", "bound"] (spPlaceFrom B) := ⟨_, _, ok_placeFrom F_PlaceFrom TB M_RoundedUp, b_PlaceFrom, ⟨a_PlaceFrom, i_PlaceFrom, k_PlaceFrom⟩⟩
  have M_CountTo : MethOk P w K mg base B "count_to" 1 ["self", "bound"] (spCountTo B) := ⟨_, _, ok_countTo F_CountTo TB, b_CountTo, ⟨a_CountTo, i_CountTo, k_CountTo⟩⟩
  have M_Leaves : MethOk P w K mg base B "leaves" 2 ["self", "divisor"] (spLeaves B) := ⟨_, _, ok_leaves F_Leaves T TB M_Number, b_Leaves, ⟨a_Leaves, i_Leaves, k_Leaves⟩⟩
  have M_PlaceGoes : MethOk P w K mg base B "place_that_goes" 2 ["self", "share"] (spPlaceGoes B C) := ⟨_, _, ok_placeGoes F_PlaceGoes T TB M_Number M_GoesWith, b_PlaceGoes, ⟨a_PlaceGoes, i_PlaceGoes, k_PlaceGoes⟩⟩
  have M_PlacesBetween : MethOk P w K mg base B "places_between" 1 ["self", "share"] (spBetween B C) := ⟨_, _, ok_between F_PlacesBetween T TB, b_PlacesBetween, ⟨a_PlacesBetween, i_PlacesBetween, k_PlacesBetween⟩⟩
  have M_Thinned : MethOk P w K mg base B "thinned" 3 ["self", "place", "places"] (spThinned B) := ⟨_, _, ok_thinned F_Thinned TB M_Number M_RowInit, b_Thinned, ⟨a_Thinned, i_Thinned, k_Thinned⟩⟩
  have M_RestsBehind : MethOk P w K mg base B "rests_behind" 3 ["self", "share"] (spRests B C) := ⟨_, _, ok_rests F_RestsBehind T TB M_PartSize M_HeapBehind M_RowInit, b_RestsBehind, ⟨a_RestsBehind, i_RestsBehind, k_RestsBehind⟩⟩
  have M_PartSizes : MethOk P w K mg base D "part_sizes" 2 ["self", "heap"] (spPartSizes C D) := ⟨_, _, ok_partSizes F_PartSizes T M_GoesWith M_PartSize M_HeapBehind, b_PartSizes, ⟨a_PartSizes, i_PartSizes, k_PartSizes⟩⟩
  have M_MonkeyGets : MethOk P w K mg base D "monkey_gets" 1 ["self"] (spMonkey C D) := ⟨_, _, ok_monkeyGets F_MonkeyGets T, b_MonkeyGets, ⟨a_MonkeyGets, i_MonkeyGets, k_MonkeyGets⟩⟩
  have M_TakenOf : MethOk P w K mg base D "taken_of" 3 ["self", "heap"] (spTakenOf C D) := ⟨_, _, ok_takenOf F_TakenOf T M_PartSizes, b_TakenOf, ⟨a_TakenOf, i_TakenOf, k_TakenOf⟩⟩
  have M_LeftOf : MethOk P w K mg base D "left_of" 4 ["self", "heap"] (spLeftOf C D) := ⟨_, _, ok_leftOf F_LeftOf T M_MonkeyGets M_TakenOf, b_LeftOf, ⟨a_LeftOf, i_LeftOf, k_LeftOf⟩⟩
  have M_GoingHeaps : MethOk P w K mg base D "going_heaps" 4 ["self"] (spGoing B C D) := ⟨_, _, ok_going F_GoingHeaps T TB M_RowInit M_PlaceGoes M_PlacesBetween M_Thinned M_RestsBehind, b_GoingHeaps, ⟨a_GoingHeaps, i_GoingHeaps, k_GoingHeaps⟩⟩
  have M_Begin : MethOk P w K mg base D "begin" 5 ["self"] (spN0 C D .night) := ⟨_, _, (ok_begin F_Begin T).mono (by decide), b_Begin, ⟨a_Begin, i_Begin, k_Begin⟩⟩
  have M_AddShare : MethOk P w K mg base D "add_share" 5 ["self", "parts", "over", "taken"] (spN3 C D .share) := ⟨_, _, (ok_addShare F_AddShare T M_IsShare M_ShInit).mono (by decide), b_AddShare, ⟨a_AddShare, i_AddShare, k_AddShare⟩⟩
  have M_Undo : MethOk P w K mg base D "undo" 5 ["self"] (spN0 C D .undo) := ⟨_, _, (ok_undo F_Undo T).mono (by decide), b_Undo, ⟨a_Undo, i_Undo, k_Undo⟩⟩
  have M_SetSailors : MethOk P w K mg base D "set_sailors" 5 ["self", "sailors"] (spN1 C D .sailors) := ⟨_, _, (ok_setSailors F_SetSailors T M_IsParts M_ShInit).mono (by decide), b_SetSailors, ⟨a_SetSailors, i_SetSailors, k_SetSailors⟩⟩
  have M_Goes : MethOk P w K mg base D "goes" 5 ["self", "heap"] (spAsk1 C D fun l x => (Uw79.step l (.goes x)).2) := ⟨_, _, (ok_goes F_Goes T M_PartSizes M_HeapBehind).mono (by decide), b_Goes, ⟨a_Goes, i_Goes, k_Goes⟩⟩
  have M_Gets : MethOk P w K mg base D "gets" 5 ["self", "heap"] (spAsk1 C D fun l x => (Uw79.step l (.gets x)).2) := ⟨_, _, (ok_gets F_Gets T M_PartSizes M_MonkeyGets M_TakenOf M_LeftOf).mono (by decide), b_Gets, ⟨a_Gets, i_Gets, k_Gets⟩⟩
  have M_Least : MethOk P w K mg base D "least" 5 ["self", "bound"] (spAsk1 C D fun l x => (Uw79.step l (.least x)).2) := ⟨_, _, (ok_least F_Least T TB M_GoingHeaps M_Number M_PlaceFrom).mono (by decide), b_Least, ⟨a_Least, i_Least, k_Least⟩⟩
  have M_Every : MethOk P w K mg base D "every" 5 ["self"] (spAsk0 C D fun l => (Uw79.step l .every).2) := ⟨_, _, (ok_every F_Every T TB M_GoingHeaps).mono (by decide), b_Every, ⟨a_Every, i_Every, k_Every⟩⟩
  have M_CountGoing : MethOk P w K mg base D "count_going" 5 ["self", "bound"] (spAsk1 C D fun l x => (Uw79.step l (.count x)).2) := ⟨_, _, (ok_countGoing F_CountGoing T TB M_GoingHeaps M_CountTo).mono (by decide), b_CountGoing, ⟨a_CountGoing, i_CountGoing, k_CountGoing⟩⟩
  have M_Richest : MethOk P w K mg base D "richest" 5 ["self", "bound", "index"] (spAsk2 C D fun l x i => (Uw79.step l (.richest x i)).2) := ⟨_, _, (ok_richest F_Richest T TB M_GoingHeaps M_Number M_PlaceFrom M_TakenOf M_RowThrough).mono (by decide), b_Richest, ⟨a_Richest, i_Richest, k_Richest⟩⟩
  have M_Back : MethOk P w K mg base D "back" 5 ["self", "left"] (spAsk1 C D fun l x => (Uw79.step l (.back x)).2) := ⟨_, _, (ok_back F_Back T TB M_TakesAll M_HeapAhead).mono (by decide), b_Back, ⟨a_Back, i_Back, k_Back⟩⟩
  have M_Last : MethOk P w K mg base D "last" 5 ["self", "divisor"] (spAsk1 C D fun l x => (Uw79.step l (.last x)).2) := ⟨_, _, (ok_last F_Last T TB M_GoingHeaps M_Number M_LeftOf M_Leaves M_RowThrough).mono (by decide), b_Last, ⟨a_Last, i_Last, k_Last⟩⟩
  have M_AnswerCall : DefOk P w K mg base "answer_call" 6 ["night", "call", "numbers"] (spCall C D) := ⟨_, _, ok_answerCall F_AnswerCall T U M_Begin M_AddShare M_Undo M_SetSailors M_Goes M_Gets M_Least M_Every M_CountGoing M_Richest M_Back M_Last, b_AnswerCall, PySem.W.mg_of X G a_AnswerCall, k_AnswerCall⟩
  exact ok_answers F_Answers T M_NInit M_AnswerCall (PySem.W.mg_of X G g_NUMBERS_BEHIND) fun H => .inr ⟨_, _, _, l_NUMBERS_BEHIND, rfl, rfl, (by show 12 ≤ 16777216; decide), .cons ⟨_, rfl⟩ (.cons ⟨_, rfl⟩ (.cons ⟨_, rfl⟩ (.cons ⟨_, rfl⟩ (.cons ⟨_, rfl⟩ (.cons ⟨_, rfl⟩ (.cons ⟨_, rfl⟩ (.cons ⟨_, rfl⟩ (.cons ⟨_, rfl⟩ (.cons ⟨_, rfl⟩ (.cons ⟨_, rfl⟩ (.cons ⟨_, rfl⟩ (.nil))))))))))))⟩
end Uwp
open PySem PySem.W PyProof.Rows
set_option maxRecDepth 100000 in
set_option maxHeartbeats 0 in
theorem PySem.Challenge.cw_coconutheaps_s01_answers_holds : PySem.Challenge.rw_coconutheaps_s01_answers.Holds := by
  w_on; k_headS; (case hw => exact ⟨[.list [.int 0]], by decide +kernel, by decide +kernel⟩)
  k_fillS
  refine L2.walk_specK (r := PySem.Challenge.rw_coconutheaps_s01_answers) (k := 7) (CX := L2.CX0) (ps := ["calls"]) (sp := Uwp.spAnswers) (by decide +kernel) rfl rfl ⟨rfl, by decide, by decide⟩ (fun w h Y => PySem.W.kIn_of Y) ?F ?S (fun _ _ _ _ z => z)
  case F =>
    intro w mg fa h Y KX G hmg
    refine' Uwp.all_mk KX G hmg ?aC ?aB ?aD ?a_ShInit ?i_ShInit ?l_ShInit ?c_ShInit ?k_ShInit ?a_GoesWith ?i_GoesWith ?l_GoesWith ?c_GoesWith ?k_GoesWith ?a_PartSize ?i_PartSize ?l_PartSize ?c_PartSize ?k_PartSize ?a_HeapBehind ?i_HeapBehind ?l_HeapBehind ?c_HeapBehind ?k_HeapBehind ?a_TakesAll ?i_TakesAll ?l_TakesAll ?c_TakesAll ?k_TakesAll ?a_HeapAhead ?i_HeapAhead ?l_HeapAhead ?c_HeapAhead ?k_HeapAhead ?a_RowInit ?i_RowInit ?l_RowInit ?c_RowInit ?k_RowInit ?a_Number ?i_Number ?l_Number ?c_Number ?k_Number ?a_PlaceFrom ?i_PlaceFrom ?l_PlaceFrom ?c_PlaceFrom ?k_PlaceFrom ?a_CountTo ?i_CountTo ?l_CountTo ?c_CountTo ?k_CountTo ?a_Leaves ?i_Leaves ?l_Leaves ?c_Leaves ?k_Leaves ?a_PlaceGoes ?i_PlaceGoes ?l_PlaceGoes ?c_PlaceGoes ?k_PlaceGoes ?a_PlacesBetween ?i_PlacesBetween ?l_PlacesBetween ?c_PlacesBetween ?k_PlacesBetween ?a_Thinned ?i_Thinned ?l_Thinned ?c_Thinned ?k_Thinned ?a_RestsBehind ?i_RestsBehind ?l_RestsBehind ?c_RestsBehind ?k_RestsBehind ?a_NInit ?i_NInit ?l_NInit ?c_NInit ?k_NInit ?a_Begin ?i_Begin ?l_Begin ?c_Begin ?k_Begin ?a_AddShare ?i_AddShare ?l_AddShare ?c_AddShare ?k_AddShare ?a_Undo ?i_Undo ?l_Undo ?c_Undo ?k_Undo ?a_SetSailors ?i_SetSailors ?l_SetSailors ?c_SetSailors ?k_SetSailors ?a_PartSizes ?i_PartSizes ?l_PartSizes ?c_PartSizes ?k_PartSizes ?a_Goes ?i_Goes ?l_Goes ?c_Goes ?k_Goes ?a_Gets ?i_Gets ?l_Gets ?c_Gets ?k_Gets ?a_MonkeyGets ?i_MonkeyGets ?l_MonkeyGets ?c_MonkeyGets ?k_MonkeyGets ?a_TakenOf ?i_TakenOf ?l_TakenOf ?c_TakenOf ?k_TakenOf ?a_LeftOf ?i_LeftOf ?l_LeftOf ?c_LeftOf ?k_LeftOf ?a_GoingHeaps ?i_GoingHeaps ?l_GoingHeaps ?c_GoingHeaps ?k_GoingHeaps ?a_Least ?i_Least ?l_Least ?c_Least ?k_Least ?a_Every ?i_Every ?l_Every ?c_Every ?k_Every ?a_CountGoing ?i_CountGoing ?l_CountGoing ?c_CountGoing ?k_CountGoing ?a_Richest ?i_Richest ?l_Richest ?c_Richest ?k_Richest ?a_Back ?i_Back ?l_Back ?c_Back ?k_Back ?a_Last ?i_Last ?l_Last ?c_Last ?k_Last ?a_IsParts ?l_IsParts ?c_IsParts ?k_IsParts ?a_IsShare ?l_IsShare ?c_IsShare ?k_IsShare ?a_RoundedUp ?l_RoundedUp ?c_RoundedUp ?k_RoundedUp ?a_RowThrough ?l_RowThrough ?c_RowThrough ?k_RowThrough ?a_AnswerCall ?l_AnswerCall ?c_AnswerCall ?k_AnswerCall ?a_Answers ?l_Answers ?c_Answers ?k_Answers ?pgC ?hdC ?poC ?saC ?mkC ?kcC ?nC_parts ?nC_over ?nC_taken ?pgB ?hdB ?poB ?saB ?mkB ?kcB ?nB_first ?nB_step ?pgD ?hdD ?poD ?saD ?mkD ?kcD ?nD_shares ?g_MOST_SHARES ?g_LEAST_PARTS ?g_MOST_PARTS ?g_LEAST_DIVISOR ?g_MOST_DIVISOR ?g_WRONG_NUMBER ?g_DOES_NOT_GO ?g_NEVER_SO_MUCH ?g_TOO_MANY_SHARES ?g_NO_HEAP ?g_ALL_TAKEN ?g_NO_SHARE ?g_NIGHT ?g_SHARE ?g_UNDO ?g_SAILORS ?g_GOES ?g_GETS ?g_LEAST ?g_EVERY ?g_COUNT ?g_RICHEST ?g_BACK ?z_len ?z_range ?z_zip ?z_sum ?z_set ?z_sorted ?z_any ?z_reversed ?g_NUMBERS_BEHIND ?l_NUMBERS_BEHIND
    (case aC => k_is)
    (case aB => k_is)
    (case aD => k_is)
    (case a_ShInit => k_is)
    (case i_ShInit => k_is)
    (case l_ShInit => k_is)
    (case c_ShInit => k_is)
    (case k_ShInit => k_is)
    (case a_GoesWith => k_is)
    (case i_GoesWith => k_is)
    (case l_GoesWith => k_is)
    (case c_GoesWith => k_is)
    (case k_GoesWith => k_is)
    (case a_PartSize => k_is)
    (case i_PartSize => k_is)
    (case l_PartSize => k_is)
    (case c_PartSize => k_is)
    (case k_PartSize => k_is)
    (case a_HeapBehind => k_is)
    (case i_HeapBehind => k_is)
    (case l_HeapBehind => k_is)
    (case c_HeapBehind => k_is)
    (case k_HeapBehind => k_is)
    (case a_TakesAll => k_is)
    (case i_TakesAll => k_is)
    (case l_TakesAll => k_is)
    (case c_TakesAll => k_is)
    (case k_TakesAll => k_is)
    (case a_HeapAhead => k_is)
    (case i_HeapAhead => k_is)
    (case l_HeapAhead => k_is)
    (case c_HeapAhead => k_is)
    (case k_HeapAhead => k_is)
    (case a_RowInit => k_is)
    (case i_RowInit => k_is)
    (case l_RowInit => k_is)
    (case c_RowInit => k_is)
    (case k_RowInit => k_is)
    (case a_Number => k_is)
    (case i_Number => k_is)
    (case l_Number => k_is)
    (case c_Number => k_is)
    (case k_Number => k_is)
    (case a_PlaceFrom => k_is)
    (case i_PlaceFrom => k_is)
    (case l_PlaceFrom => k_is)
    (case c_PlaceFrom => k_is)
    (case k_PlaceFrom => k_is)
    (case a_CountTo => k_is)
    (case i_CountTo => k_is)
    (case l_CountTo => k_is)
    (case c_CountTo => k_is)
    (case k_CountTo => k_is)
    (case a_Leaves => k_is)
    (case i_Leaves => k_is)
    (case l_Leaves => k_is)
    (case c_Leaves => k_is)
    (case k_Leaves => k_is)
    (case a_PlaceGoes => k_is)
    (case i_PlaceGoes => k_is)
    (case l_PlaceGoes => k_is)
    (case c_PlaceGoes => k_is)
    (case k_PlaceGoes => k_is)
    (case a_PlacesBetween => k_is)
    (case i_PlacesBetween => k_is)
    (case l_PlacesBetween => k_is)
    (case c_PlacesBetween => k_is)
    (case k_PlacesBetween => k_is)
    (case a_Thinned => k_is)
    (case i_Thinned => k_is)
    (case l_Thinned => k_is)
    (case c_Thinned => k_is)
    (case k_Thinned => k_is)
    (case a_RestsBehind => k_is)
    (case i_RestsBehind => k_is)
    (case l_RestsBehind => k_is)
    (case c_RestsBehind => k_is)
    (case k_RestsBehind => k_is)
    (case a_NInit => k_is)
    (case i_NInit => k_is)
    (case l_NInit => k_is)
    (case c_NInit => k_is)
    (case k_NInit => k_is)
    (case a_Begin => k_is)
    (case i_Begin => k_is)
    (case l_Begin => k_is)
    (case c_Begin => k_is)
    (case k_Begin => k_is)
    (case a_AddShare => k_is)
    (case i_AddShare => k_is)
    (case l_AddShare => k_is)
    (case c_AddShare => k_is)
    (case k_AddShare => k_is)
    (case a_Undo => k_is)
    (case i_Undo => k_is)
    (case l_Undo => k_is)
    (case c_Undo => k_is)
    (case k_Undo => k_is)
    (case a_SetSailors => k_is)
    (case i_SetSailors => k_is)
    (case l_SetSailors => k_is)
    (case c_SetSailors => k_is)
    (case k_SetSailors => k_is)
    (case a_PartSizes => k_is)
    (case i_PartSizes => k_is)
    (case l_PartSizes => k_is)
    (case c_PartSizes => k_is)
    (case k_PartSizes => k_is)
    (case a_Goes => k_is)
    (case i_Goes => k_is)
    (case l_Goes => k_is)
    (case c_Goes => k_is)
    (case k_Goes => k_is)
    (case a_Gets => k_is)
    (case i_Gets => k_is)
    (case l_Gets => k_is)
    (case c_Gets => k_is)
    (case k_Gets => k_is)
    (case a_MonkeyGets => k_is)
    (case i_MonkeyGets => k_is)
    (case l_MonkeyGets => k_is)
    (case c_MonkeyGets => k_is)
    (case k_MonkeyGets => k_is)
    (case a_TakenOf => k_is)
    (case i_TakenOf => k_is)
    (case l_TakenOf => k_is)
    (case c_TakenOf => k_is)
    (case k_TakenOf => k_is)
    (case a_LeftOf => k_is)
    (case i_LeftOf => k_is)
    (case l_LeftOf => k_is)
    (case c_LeftOf => k_is)
    (case k_LeftOf => k_is)
    (case a_GoingHeaps => k_is)
    (case i_GoingHeaps => k_is)
    (case l_GoingHeaps => k_is)
    (case c_GoingHeaps => k_is)
    (case k_GoingHeaps => k_is)
    (case a_Least => k_is)
    (case i_Least => k_is)
    (case l_Least => k_is)
    (case c_Least => k_is)
    (case k_Least => k_is)
    (case a_Every => k_is)
    (case i_Every => k_is)
    (case l_Every => k_is)
    (case c_Every => k_is)
    (case k_Every => k_is)
    (case a_CountGoing => k_is)
    (case i_CountGoing => k_is)
    (case l_CountGoing => k_is)
    (case c_CountGoing => k_is)
    (case k_CountGoing => k_is)
    (case a_Richest => k_is)
    (case i_Richest => k_is)
    (case l_Richest => k_is)
    (case c_Richest => k_is)
    (case k_Richest => k_is)
    (case a_Back => k_is)
    (case i_Back => k_is)
    (case l_Back => k_is)
    (case c_Back => k_is)
    (case k_Back => k_is)
    (case a_Last => k_is)
    (case i_Last => k_is)
    (case l_Last => k_is)
    (case c_Last => k_is)
    (case k_Last => k_is)
    (case a_IsParts => k_is)
    (case l_IsParts => k_is)
    (case c_IsParts => k_is)
    (case k_IsParts => k_is)
    (case a_IsShare => k_is)
    (case l_IsShare => k_is)
    (case c_IsShare => k_is)
    (case k_IsShare => k_is)
    (case a_RoundedUp => k_is)
    (case l_RoundedUp => k_is)
    (case c_RoundedUp => k_is)
    (case k_RoundedUp => k_is)
    (case a_RowThrough => k_is)
    (case l_RowThrough => k_is)
    (case c_RowThrough => k_is)
    (case k_RowThrough => k_is)
    (case a_AnswerCall => k_is)
    (case l_AnswerCall => k_is)
    (case c_AnswerCall => k_is)
    (case k_AnswerCall => k_is)
    (case a_Answers => k_is)
    (case l_Answers => k_is)
    (case c_Answers => k_is)
    (case k_Answers => k_is)
    (case pgC => k_is)
    (case hdC => k_is)
    (case poC => k_is)
    (case saC => k_is)
    (case mkC => k_is)
    (case kcC => k_is)
    (case nC_parts => k_is)
    (case nC_over => k_is)
    (case nC_taken => k_is)
    (case pgB => k_is)
    (case hdB => k_is)
    (case poB => k_is)
    (case saB => k_is)
    (case mkB => k_is)
    (case kcB => k_is)
    (case nB_first => k_is)
    (case nB_step => k_is)
    (case pgD => k_is)
    (case hdD => k_is)
    (case poD => k_is)
    (case saD => k_is)
    (case mkD => k_is)
    (case kcD => k_is)
    (case nD_shares => k_is)
    (case g_MOST_SHARES => k_is)
    (case g_LEAST_PARTS => k_is)
    (case g_MOST_PARTS => k_is)
    (case g_LEAST_DIVISOR => k_is)
    (case g_MOST_DIVISOR => k_is)
    (case g_WRONG_NUMBER => k_is)
    (case g_DOES_NOT_GO => k_is)
    (case g_NEVER_SO_MUCH => k_is)
    (case g_TOO_MANY_SHARES => k_is)
    (case g_NO_HEAP => k_is)
    (case g_ALL_TAKEN => k_is)
    (case g_NO_SHARE => k_is)
    (case g_NIGHT => k_is)
    (case g_SHARE => k_is)
    (case g_UNDO => k_is)
    (case g_SAILORS => k_is)
    (case g_GOES => k_is)
    (case g_GETS => k_is)
    (case g_LEAST => k_is)
    (case g_EVERY => k_is)
    (case g_COUNT => k_is)
    (case g_RICHEST => k_is)
    (case g_BACK => k_is)
    (case z_len => k_is)
    (case z_range => k_is)
    (case z_zip => k_is)
    (case z_sum => k_is)
    (case z_set => k_is)
    (case z_sorted => k_is)
    (case z_any => k_is)
    (case z_reversed => k_is)
    (case g_NUMBERS_BEHIND => k_is)
    (case l_NUMBERS_BEHIND => k_is)
  case S =>
    intro K H xs a hO hwi hask hx
    cases hx with
    | cons h1 h2 =>
      cases h2
      cases h1 with
      | lst hs ha =>
        have e := L2.ints_dw a.1 _ ha
        subst e
        have q : ((Codec.inLen 0 160 a.1 && a.1.all (Codec.inInt 0 4294967295)) && true) = true := hwi
        rw [Bool.and_eq_true, Bool.and_eq_true] at q
        have hb : ∀ z ∈ a.1, 0 ≤ z ∧ z ≤ 4294967295 := fun z hz => Codec.inInt_iff.mp (List.all_eq_true.mp q.1.2 z hz)
        exact ⟨_, a.1, rfl, hs, hb, hask, fun H' p hp => .lst (L2.SqL.of hp) (L2.dw_ints _)⟩

end
