import PyProof.Rows.All
import Wide.All
import OpenK.AllK
import Wide.FinOn
import Lean
import PyProof.EqAt
import PyProof.EqKinds
import PyProof.TupleCall
import PySem.Challenge.RW_trailbook_k12_trails_on_lines
set_option Elab.async false
set_option linter.all false
set_option maxRecDepth 100000
/-! THE HAND LAYER, for ints, bools, texts, own classes, LISTS and tuples (index, slices, in, append, pop ..), calls, loops. Paste it whole ahead of your own text; what your proof does not reach may be deleted. -/
namespace L2
open PySem PySem.Spec PyProof.Rows

/-- a key: an int or a str -/
abbrev Key := Sum Int Str
def keyIs : Key → Value → Bool
  | .inl k, v => Value.isInt k v
  | .inr x, v => Value.isStrOf x v
def keyH (w : World) : Key → Int
  | .inl k => hashInt k
  | .inr x => hashStr w x
theorem keyIs_shape : ∀ {k : Key} {v : Value}, keyIs k v = true → (∃ i t, k = Sum.inl i ∧ v = Value.int i t) ∨ (∃ x t, k = Sum.inr x ∧ v = Value.str x t)
  | .inl i, v, h => by
    obtain ⟨t, e⟩ := Value.isInt_shape (k := i) (v := v) h
    exact .inl ⟨i, t, rfl, e⟩
  | .inr x, v, h => by
    obtain ⟨t, e⟩ := Value.isStrOf_shape (x := x) (v := v) h
    exact .inr ⟨x, t, rfl, e⟩
theorem key_ll (a b : Int) : decide ((Sum.inl a : Key) = Sum.inl b) = (a == b) := by
  by_cases e : a = b
  · subst e; simp
  · have h : ¬ (Sum.inl a : Key) = Sum.inl b := fun q => e (Sum.inl.inj q)
    rw [decide_eq_false h]
    exact (beq_eq_false_iff_ne.mpr e).symm
theorem key_rr (a b : Str) : decide ((Sum.inr a : Key) = Sum.inr b) = decide (a = b) := by
  by_cases e : a = b
  · subst e; simp
  · have h : ¬ (Sum.inr a : Key) = Sum.inr b := fun q => e (Sum.inr.inj q)
    rw [decide_eq_false h, decide_eq_false e]
theorem key_lr (a : Int) (b : Str) : decide ((Sum.inl a : Key) = Sum.inr b) = false := decide_eq_false (fun q => nomatch q)
theorem key_rl (a : Str) (b : Int) : decide ((Sum.inr a : Key) = Sum.inl b) = false := decide_eq_false (fun q => nomatch q)

def mixKind (prog : Program) (w : World) : PySem.KeyKind prog w Key where
  is := keyIs
  hash := keyH w
  inj := fun v a b ha hb => by
    rcases keyIs_shape ha with ⟨i, t, rfl, rfl⟩ | ⟨x, t, rfl, rfl⟩
    · rcases keyIs_shape hb with ⟨j, u, rfl, e⟩ | ⟨y, u, rfl, e⟩
      · injection e with e1 _; rw [e1]
      · exact nomatch e
    · rcases keyIs_shape hb with ⟨j, u, rfl, e⟩ | ⟨y, u, rfl, e⟩
      · exact nomatch e
      · injection e with e1 _; rw [e1]
  byValue := fun k v h => by
    rcases keyIs_shape h with ⟨i, t, rfl, rfl⟩ | ⟨x, t, rfl, rfl⟩ <;> rfl
  pyHash := fun hv h => by
    rcases keyIs_shape hv with ⟨i, t, rfl, rfl⟩ | ⟨x, t, rfl, rfl⟩
    · exact wpAny_pyHash_int h
    · exact wpAny_pyHash_str h
  eqBool := fun hu hv h => by
    rcases keyIs_shape hu with ⟨i, t, rfl, rfl⟩ | ⟨x, t, rfl, rfl⟩
    · rcases keyIs_shape hv with ⟨j, u, rfl, rfl⟩ | ⟨y, u, rfl, rfl⟩
      · rw [key_ll] at h; exact wpAny_eqBool_int h
      · rw [key_lr] at h; exact SeqAt.EqAt.int_str i t y u _ _ _ _ h
    · rcases keyIs_shape hv with ⟨j, u, rfl, rfl⟩ | ⟨y, u, rfl, rfl⟩
      · rw [key_rl] at h; exact SeqAt.EqAt.str_int x t j u _ _ _ _ h
      · rw [key_rr] at h; exact wpAny_eqBool_str h
  «strs» := fun k x t v h => by
    rcases keyIs_shape h with ⟨i, u, rfl, e⟩ | ⟨y, u, rfl, e⟩
    · exact nomatch e
    · injection e with e1 _
      subst e1
      cases v <;> rfl

end L2

namespace L2
open PySem PySem.Spec PyProof.Rows

/-- a value, without the heap -/
inductive V where
  | non | bl (b : Bool) | int (i : Int) | str (x : Str) | byt (b : Array UInt8) | flt (b : UInt64) | ref (a : Addr) | ty (n : String)
  deriving DecidableEq

def RelV : V → Value → Prop
  | .non, u => u = Value.none
  | .bl b, u => u = Value.bool b
  | .int i, u => ∃ t, u = Value.int i t
  | .str x, u => ∃ t, u = Value.str x t
  | .byt b, u => ∃ t, u = Value.bytes b t
  | .flt b, u => ∃ t, u = Value.float b t
  | .ref a, u => u = Value.ref a
  | .ty n, u => u = Value.type n

abbrev Vals : List V → List Value → Prop := Paired RelV
theorem Vals.length {xs : List V} {us : List Value} (r : Vals xs us) : xs.length = us.length := Paired.length r
theorem Vals.get : ∀ {xs : List V} {us : List Value} {i : Nat} {x : V}, Vals xs us → xs[i]? = some x → ∃ u, us[i]? = some u ∧ RelV x u
  | _, _, _, _, .nil, e => by simp at e
  | _, _, 0, _, .cons r _, e => by simp at e; subst e; exact ⟨_, rfl, r⟩
  | _, _, i + 1, x, .cons _ t, e => by
    obtain ⟨u, h1, h2⟩ := Vals.get (i := i) (x := x) t (by simpa using e)
    exact ⟨u, by simpa using h1, h2⟩
theorem Vals.set {x : V} {u : Value} (r : RelV x u) : ∀ {xs : List V} {us : List Value} (i : Nat), Vals xs us → Vals (xs.set i x) (us.set i u)
  | _, _, _, .nil => .nil
  | _, _, 0, .cons _ t => .cons r t
  | _, _, i + 1, .cons q t => .cons q (Vals.set r i t)
theorem Vals.append : ∀ {xs ys : List V} {us ws : List Value}, Vals xs us → Vals ys ws → Vals (xs ++ ys) (us ++ ws)
  | _, _, _, _, .nil, s => s
  | _, _, _, _, .cons r t, s => .cons r (Vals.append t s)
theorem Vals.take : ∀ {xs : List V} {us : List Value} (n : Nat), Vals xs us → Vals (xs.take n) (us.take n)
  | _, _, 0, _ => .nil
  | _, _, _ + 1, .nil => .nil
  | _, _, n + 1, .cons r t => .cons r (Vals.take n t)
theorem Vals.drop : ∀ {xs : List V} {us : List Value} (n : Nat), Vals xs us → Vals (xs.drop n) (us.drop n)
  | _, _, 0, r => r
  | _, _, _ + 1, .nil => .nil
  | _, _, n + 1, .cons _ t => Vals.drop n t
def RelO : Option V → Option Value → Prop
  | some v, some u => RelV v u
  | none, none => True
  | _, _ => False
def KV {κ : Type} : List (κ × V) → List (κ × Value) → Prop := Paired fun (p : κ × V) (q : κ × Value) => p.1 = q.1 ∧ RelV p.2 q.2

/-- a key of a dict (00_mix): an int or a text -/
def kV : Key → V
  | .inl i => .int i
  | .inr x => .str x

/-- what stands at a tracked address -/
inductive HO where
  /-- a list -/
  | lst (xs : List V)
  /-- a tuple (never changes) -/
  | tup (xs : List V)
  /-- a dict whose keys are ints and texts; one whose keys are tuples of ints and texts (the empty one is both) -/
  | dK (kvs : List (Key × V)) | dT (kvs : List (List Key × V))
  /-- a set of ints: its members, its size -/
  | set (S : Int → Bool) (n : Nat)
  /-- an instance of the class at C, its dict at dx, its attributes -/
  | ins (C dx : Addr) (fs : List (Str × V))
  /-- the dict of the instance at x -/
  | own (x : Addr)
  /-- the dict of an exception -/
  | xd (fs : List (Str × V))
  /-- a bound method, f of x -/
  | met (f x : Addr)
  /-- a range object lo, lo + 1, .. below hi -/
  | rng (lo hi : Int)
  /-- a thing that is known to the object (the script; a dict while a loop walks it): read, never written while it is so -/
  | frz (o : Obj) (u : HO)
  /-- a code object's table -/
  | tbl (ps : Array Value)
  /-- any other thing, by what is true of its one object (a def of one's own: SetO a S n := HO.ext fun h => ..) -/
  | ext (φ : Heap → Prop)

abbrev Hp := Addr → Option HO
def upd (H : Hp) (a : Addr) (o : HO) : Hp := fun b => if b = a then some o else H b
theorem upd_same {H : Hp} {a : Addr} {o : HO} : upd H a o a = some o := by unfold upd; rw [if_pos rfl]
theorem upd_ne {H : Hp} {a b : Addr} {o : HO} (h : b ≠ a) : upd H a o b = H b := by unfold upd; rw [if_neg h]
theorem ne_of_none {H : Hp} {a b : Addr} {o : HO} (h : H a = some o) (h' : H b = none) : a ≠ b := by
  intro e; subst e; rw [h] at h'; cases h'

section
variable (P : Program) (w : World)
def ObjOk (H : Hp) (h : Heap) (a : Addr) : HO → Prop
  | .lst xs => xs.length ≤ sizeLine ∧ ∃ (its : List Value) (n : Nat), Vals xs its ∧ h.get? a = some { cls := .type "list", data := .seq its.toArray n }
  | .tup xs => xs.length ≤ sizeLine ∧ ∃ its : List Value, Vals xs its ∧ IsTup h a its.toArray
  | .dK kvs => kvs.length ≤ sizeLine ∧ (a == sysModules) = false ∧ ∃ vs, KV kvs vs ∧ h.DictOf (mixKind P w) a vs
  | .dT kvs => kvs.length ≤ sizeLine ∧ (a == sysModules) = false ∧ ∃ xs : List (List Key × Addr × Value),
      Paired (fun (p : List Key × V) (q : List Key × Addr × Value) => p.1 = q.1 ∧ H q.2.1 = some (.tup (p.1.map kV)) ∧ RelV p.2 q.2.2) kvs xs ∧
      ∃ o es ep, h.get? a = some o ∧ o.ExactDict ∧ o.data = .dict es ep ∧ es.toList = xs.map (entryOfKey (tupleKind (mixKind P w))) ∧ (xs.map (·.1)).Nodup
  | .set S n => h.SetOf (intKind P w) a S n
  | .ins C dx fs => H dx = some (.own a) ∧ fs.length ≤ 1000 ∧ dx ≠ a ∧ h.get? a = some (PySem.W.instObj C dx) ∧
      ∃ mA, h.Ns1 dx mA ∧ (∀ f, RelO (fs.lookup f) (mA f)) ∧ PySem.Within mA (fs.map (·.1))
  | .own _ => ∃ o, h.get? a = some o
  | .xd fs => ∃ mA, h.Ns1 a mA ∧ ∀ f, RelO (fs.lookup f) (mA f)
  | .rng lo hi => ∃ t u v, h.get? a = some { cls := .type "range", data := .fields #[.int lo t, .int hi u, .int 1 v] }
  | .frz o u => h.get? a = some o ∧ ObjOk H h a u
  | .tbl ps => h.get? a = some { cls := .none, data := .fields ps }
  | .met f x => h.get? a = some (PySem.W.methodObj (.ref f) (.ref x))
  | .ext φ => φ h ∧ (∃ o, h.get? a = some o) ∧ ∀ h1 h2 : Heap, φ h1 → (∀ o, h1.get? a = some o → h2.get? a = some o) → φ h2
/-- the abstract heap is held -/
def HOk (H : Hp) (h : Heap) : Prop := ∀ a o, H a = some o → ObjOk P w H h a o
end

section
variable {P : Program} {w : World} {H H' : Hp} {h h' : Heap} {a : Addr} {o : HO}
theorem ObjOk.lt (x : ObjOk P w H h a o) : a < h.objs.size := by
  cases o with
  | lst xs => obtain ⟨_, _, _, _, e⟩ := x; exact Heap.lt_size e
  | tup xs => obtain ⟨_, _, _, p⟩ := x; exact p.lt
  | dK kvs => obtain ⟨_, _, _, _, o, _, _, e, _⟩ := x; exact Heap.lt_size e
  | dT kvs => obtain ⟨_, _, _, _, o, _, _, e, _⟩ := x; exact Heap.lt_size e
  | set S n => obtain ⟨o, _, _, _, e, _⟩ := x; exact Heap.lt_size e
  | ins C dx fs => obtain ⟨_, _, _, e, _⟩ := x; exact Heap.lt_size e
  | own y => obtain ⟨_, e⟩ := x; exact Heap.lt_size e
  | xd fs => obtain ⟨_, ⟨_, _, _, e, _⟩, _⟩ := x; exact Heap.lt_size e
  | rng lo hi => obtain ⟨_, _, _, e⟩ := x; exact Heap.lt_size e
  | frz ob u => obtain ⟨e, _⟩ := x; exact Heap.lt_size e
  | tbl ps => exact Heap.lt_size (show h.get? a = some _ from x)
  | met f y => exact Heap.lt_size (show h.get? a = some _ from x)
  | ext φ => obtain ⟨_, ⟨_, e⟩, _⟩ := x; exact Heap.lt_size e
theorem Paired.mapP {α β : Type} {F G : α → β → Prop} : ∀ {l₁ : List α} {l₂ : List β}, Paired F l₁ l₂ → (∀ a b, F a b → G a b) → Paired G l₁ l₂
  | _, _, .nil, _ => .nil
  | _, _, .cons r t, f => .cons (f _ _ r) (Paired.mapP t f)
/-- what an object's description leans on: its own object, its own dict, the tuples -/
theorem ObjOk.stay (x : ObjOk P w H h a o) (k : ∀ b u, (b = a ∨ H b = some (.own a)) → h.get? b = some u → h'.get? b = some u)
    (ho : ∀ b, H b = some (.own a) → H' b = some (.own a)) (ht : ∀ b xs, H b = some (.tup xs) → H' b = some (.tup xs)) : ObjOk P w H' h' a o := by
  induction o with
  | lst xs => obtain ⟨z, its, n, r, e⟩ := x; exact ⟨z, its, n, r, k _ _ (.inl rfl) e⟩
  | tup xs => obtain ⟨z, its, r, ob, e, c⟩ := x; exact ⟨z, its, r, ob, k _ _ (.inl rfl) e, c⟩
  | dK kvs => obtain ⟨z, y, vs, r, ob, es, ep, e, c⟩ := x; exact ⟨z, y, vs, r, ob, es, ep, k _ _ (.inl rfl) e, c⟩
  | dT kvs =>
    obtain ⟨z, y, xs, r, ob, es, ep, e, c⟩ := x
    exact ⟨z, y, xs, Paired.mapP r fun p q z => ⟨z.1, ht _ _ z.2.1, z.2.2⟩, ob, es, ep, k _ _ (.inl rfl) e, c⟩
  | set S n => obtain ⟨ob, es, ep, t, e, c⟩ := x; exact ⟨ob, es, ep, t, k _ _ (.inl rfl) e, c⟩
  | ins C dx fs =>
    obtain ⟨d, z, ne, e, mA, ⟨od, es, ep, e2, c⟩, r⟩ := x
    exact ⟨ho _ d, z, ne, k _ _ (.inl rfl) e, mA, ⟨od, es, ep, k _ _ (.inr d) e2, c⟩, r⟩
  | own y => obtain ⟨ob, e⟩ := x; exact ⟨ob, k _ _ (.inl rfl) e⟩
  | xd fs => obtain ⟨mA, ⟨od, es, ep, e, c⟩, r⟩ := x; exact ⟨mA, ⟨od, es, ep, k _ _ (.inl rfl) e, c⟩, r⟩
  | rng lo hi => obtain ⟨t, u, v, e⟩ := x; exact ⟨t, u, v, k _ _ (.inl rfl) e⟩
  | frz ob u ih => obtain ⟨e, q⟩ := x; exact ⟨k _ _ (.inl rfl) e, ih q⟩
  | tbl ps =>
    have e : h.get? a = some { cls := .none, data := .fields ps } := x
    show h'.get? a = some { cls := .none, data := .fields ps }
    exact k a _ (.inl rfl) e
  | met f y =>
    have e : h.get? a = some (PySem.W.methodObj (.ref f) (.ref y)) := x
    show h'.get? a = some (PySem.W.methodObj (.ref f) (.ref y))
    exact k a _ (.inl rfl) e
  | ext φ => obtain ⟨p, ⟨o, e⟩, st⟩ := x; exact ⟨st _ _ p fun o q => k _ _ (.inl rfl) q, ⟨o, k _ _ (.inl rfl) e⟩, st⟩
theorem HOk.lt (x : HOk P w H h) (e : H a = some o) : a < h.objs.size := (x a o e).lt
theorem HOk.fresh (x : HOk P w H h) (e : h.objs.size ≤ a) : H a = none := by
  cases q : H a with
  | none => rfl
  | some u => exact absurd (Nat.lt_of_lt_of_le (x.lt q) e) (Nat.lt_irrefl _)
/-- every object of the heap is kept -/
theorem HOk.kept (x : HOk P w H h) (k : ∀ b u, h.get? b = some u → h'.get? b = some u) : HOk P w H h' := fun a o e =>
  (x a o e).stay (fun b u _ q => k b u q) (fun _ q => q) fun _ _ q => q
/-- a new object is laid and tracked -/
theorem HOk.laid (x : HOk P w H h) (k : ∀ b u, h.get? b = some u → h'.get? b = some u) (hp : h.objs.size ≤ a) (new : ObjOk P w (upd H a o) h' a o) : HOk P w (upd H a o) h' := fun b u e => by
  have hn := x.fresh hp
  by_cases hb : b = a
  · subst hb; rw [upd_same] at e; cases e; exact new
  · rw [upd_ne hb] at e
    exact (x b u e).stay (fun c v _ q => k c v q) (fun c q => by rw [upd_ne (ne_of_none q hn)]; exact q) fun c xs q => by rw [upd_ne (ne_of_none q hn)]; exact q
end

/-- what may be read as u: it is u, or a known u -/
def Rd (H : Hp) (a : Addr) (u : HO) : Prop := H a = some u ∨ ∃ o, H a = some (.frz o u)
theorem Rd.of {H : Hp} {a : Addr} {u : HO} (h : H a = some u) : Rd H a u := .inl h
theorem Rd.ok {P : Program} {w : World} {H : Hp} {h : Heap} {a : Addr} {u : HO} (r : Rd H a u) (x : HOk P w H h) : ObjOk P w H h a u := by
  rcases r with r | ⟨o, r⟩
  · exact x a u r
  · obtain ⟨_, q⟩ := x a _ r
    exact q
/-- what may be written -/
def Mut : Option HO → Prop
  | some (.lst _) => True
  | some (.dK _) => True
  | some (.dT _) => True
  | some (.set _ _) => True
  | some (.ins _ _ _) => True
  | some (.ext _) => True
  | _ => False
section
variable {P : Program} {w : World} {H : Hp} {h h' : Heap} {x e : Addr} {o' : HO}
/-- the object at e is changed: x itself, or the dict of the instance x -/
theorem HOk.write (ok : HOk P w H h) (mu : Mut (H x)) (he : e = x ∨ H e = some (.own x)) (k : ∀ b u, b ≠ e → h.get? b = some u → h'.get? b = some u) (heo : ∃ u, h'.get? e = some u)
    (new : ObjOk P w (upd H x o') h' x o') : HOk P w (upd H x o') h' := fun b u q => by
  have nown : ∀ c y, H c = some (.own y) → c ≠ x := fun c y r z => by subst z; rw [r] at mu; exact mu
  have ntup : ∀ c xs, H c = some (.tup xs) → c ≠ x := fun c xs r z => by subst z; rw [r] at mu; exact mu
  by_cases hb : b = x
  · subst hb; rw [upd_same] at q; cases q; exact new
  · rw [upd_ne hb] at q
    by_cases hbe : b = e
    · have q' : H b = some (.own x) := by
        rcases he with z | z
        · exact absurd (hbe.trans z) hb
        · rw [hbe]; exact z
      rw [q] at q'; cases q'
      obtain ⟨v, hv⟩ := heo
      exact ⟨v, by rw [hbe]; exact hv⟩
    · refine (ok b u q).stay (fun c v hc r => k c v ?_ r) (fun c r => by rw [upd_ne (nown c b r)]; exact r) fun c xs r => by rw [upd_ne (ntup c xs r)]; exact r
      rcases hc with rfl | hc
      · exact hbe
      · rintro rfl
        rcases he with z | z
        · exact nown c b hc z
        · rw [hc] at z; cases z; exact hb rfl
end

/-! ### kept unless tracked; of the frames at fs (the callers') the slots may change (an exception that passes writes there); of the records at ex (iterators) nothing is said -/
structure Un (fs ex : List Addr) (H H' : Hp) (h h' : Heap) : Prop where
  keep : ∀ b o, h.get? b = some o → H b = none → b ∉ fs → b ∉ ex → h'.get? b = some o
  slot : ∀ b o, h.get? b = some o → H b = none → b ∈ fs → b ∉ ex → ∃ sl, h'.get? b = some { o with slots := sl }
  free : ∀ b o, h.get? b = some o → H b = none → b ∉ ex → H' b = none
  there : ∀ b o, h.get? b = some o → b ∉ ex → ∃ o', h'.get? b = some o'
  tups : ∀ b xs, H b = some (.tup xs) → H' b = some (.tup xs)
  frzs : ∀ b o u, H b = some (.frz o u) → H' b = some (.frz o u)
  tbls : ∀ b ps, H b = some (.tbl ps) → ∃ more, H' b = some (.tbl (ps ++ more))
section
variable {fs fs' ex ex' : List Addr} {H H1 H2 : Hp} {h h1 h2 h' : Heap} {a x e : Addr} {o : HO}
theorem Un.any (u : Un fs ex H H1 h h1) {b : Addr} {ob : Obj} (q : h.get? b = some ob) (n : H b = none) (hx : b ∉ ex) : ∃ sl, h1.get? b = some { ob with slots := sl } := by
  by_cases hb : b ∈ fs
  · exact u.slot b ob q n hb hx
  · exact ⟨ob.slots, u.keep b ob q n hb hx⟩
theorem Un.trans (a : Un fs ex H H1 h h1) (b : Un fs ex H1 H2 h1 h2) : Un fs ex H H2 h h2 where
  keep := fun c ob q n hc hx => b.keep c ob (a.keep c ob q n hc hx) (a.free c ob q n hx) hc hx
  slot := fun c ob q n hc hx => by
    obtain ⟨sl, e1⟩ := a.slot c ob q n hc hx
    obtain ⟨sl', e2⟩ := b.slot c _ e1 (a.free c ob q n hx) hc hx
    exact ⟨sl', e2⟩
  free := fun c ob q n hx => by
    obtain ⟨o', e1⟩ := a.there c ob q hx
    exact b.free c o' e1 (a.free c ob q n hx) hx
  there := fun c ob q hx => by
    obtain ⟨o', e1⟩ := a.there c ob q hx
    exact b.there c o' e1 hx
  tups := fun c xs q => b.tups c xs (a.tups c xs q)
  frzs := fun c ob xs q => b.frzs c ob xs (a.frzs c ob xs q)
  tbls := fun c ps q => by
    obtain ⟨m1, e1⟩ := a.tbls c ps q
    obtain ⟨m2, e2⟩ := b.tbls c _ e1
    exact ⟨m1 ++ m2, by rw [e2, Array.append_assoc]⟩
theorem Un.kept (k : ∀ b u, h.get? b = some u → h'.get? b = some u) : Un fs ex H H h h' :=
  ⟨fun b ob q _ _ _ => k b ob q, fun b ob q _ _ _ => ⟨ob.slots, k b ob q⟩, fun _ _ _ n _ => n, fun b ob q _ => ⟨ob, k b ob q⟩, fun _ _ q => q, fun _ _ _ q => q, fun _ ps q => ⟨#[], by rw [q]; simp⟩⟩
theorem Un.refl : Un fs ex H H h h := Un.kept fun _ _ q => q
theorem Un.laid (k : ∀ b u, h.get? b = some u → h'.get? b = some u) (hp : h.objs.size ≤ a) (hn : H a = none) : Un fs ex H (upd H a o) h h' where
  keep := fun b u q _ _ _ => k b u q
  slot := fun b u q _ _ _ => ⟨u.slots, k b u q⟩
  free := fun b u q n _ => by rw [upd_ne (Nat.ne_of_lt (Nat.lt_of_lt_of_le (Heap.lt_size q) hp))]; exact n
  there := fun b u q _ => ⟨u, k b u q⟩
  tups := fun b xs q => by rw [upd_ne (ne_of_none q hn)]; exact q
  frzs := fun b u xs q => by rw [upd_ne (ne_of_none q hn)]; exact q
  tbls := fun b ps q => ⟨#[], by rw [upd_ne (ne_of_none q hn), q]; simp⟩
theorem Un.write (mu : Mut (H x)) (he : e = x ∨ H e = some (.own x)) (k : ∀ b u, b ≠ e → h.get? b = some u → h'.get? b = some u) (heo : ∃ u, h'.get? e = some u) : Un fs ex H (upd H x o) h h' := by
  have hx : ∀ b, H b = none → b ≠ x := fun b n z => by subst z; rw [n] at mu; exact mu
  have hb : ∀ b, H b = none → b ≠ e := fun b n z => by
    subst z
    rcases he with r | r
    · exact hx b n r
    · rw [n] at r; cases r
  have hm : ∀ b u, H b = some u → ¬ Mut (some u) → b ≠ x := fun b u q nm z => by subst z; rw [q] at mu; exact nm mu
  refine ⟨fun b u q n _ _ => k b u (hb b n) q, fun b u q n _ _ => ⟨u.slots, k b u (hb b n) q⟩, fun b u q n _ => by rw [upd_ne (hx b n)]; exact n, fun b u q _ => ?_,
    fun b xs q => by rw [upd_ne (hm b _ q fun z => z)]; exact q, fun b u xs q => by rw [upd_ne (hm b _ q fun z => z)]; exact q, fun b ps q => ⟨#[], by rw [upd_ne (hm b _ q fun z => z), q]; simp⟩⟩
  by_cases hbe : b = e
  · subst hbe; exact heo
  · exact ⟨u, k b u hbe q⟩
theorem Un.mono (u : Un fs ex H H1 h h1) (hs : ∀ b ∈ fs, b ∈ fs') (hx : ∀ b ∈ ex, b ∈ ex') : Un fs' ex' H H1 h h1 :=
  ⟨fun b ob q n hb he => u.keep b ob q n (fun z => hb (hs b z)) fun z => he (hx b z), fun _ _ q n _ he => u.any q n fun z => he (hx _ z), fun b ob q n he => u.free b ob q n fun z => he (hx b z), fun b ob q he => u.there b ob q fun z => he (hx b z), u.tups, u.frzs, u.tbls⟩
end

/-! ### the heap without what is tracked -/
def trk (h : Heap) (H : Hp) : List Addr := (List.range h.objs.size).filter fun a => (H a).isSome
def hidT (h : Heap) (H : Hp) : Heap := PySem.W.hideAll h (trk h H)
theorem hidT_size (h : Heap) (H : Hp) : (hidT h H).objs.size = h.objs.size := PySem.W.hideAll_size _ _
theorem hidT_get {h : Heap} {H : Hp} {b : Addr} {o : Obj} (e : h.get? b = some o) (n : H b = none) : (hidT h H).get? b = some o :=
  PySem.W.hideAll_get _ e fun hm => by
    have q : (H b).isSome = true := (List.mem_filter.mp hm).2
    rw [n] at q; simp at q
theorem of_hidT {h : Heap} {H : Hp} {b : Addr} {o : Obj} (e : (hidT h H).get? b = some o) : h.get? b = some o ∧ H b = none := by
  have e' : h.get? b = some o := PySem.W.of_hideAll (trk h H) e
  refine ⟨e', ?_⟩
  cases q : H b with
  | none => rfl
  | some x =>
    have hm : b ∈ trk h H := List.mem_filter.mpr ⟨List.mem_range.mpr (Heap.lt_size e'), by simp [q]⟩
    have z : (hidT h H).get? b = none := PySem.W.hideAll_none (trk h H) hm
    rw [z] at e; cases e

/-! ### OpenK's ledger, filled with every new object but one -/
def allNews (g h : Heap) (L : Addr) : List (Addr × Obj) := (List.range h.objs.size).filterMap fun a => if a = L ∨ (g.get? a).isSome = true then none else (h.get? a).map fun o => (a, o)
def rest (g h : Heap) (L d : Addr) : List (Addr × Obj) := (allNews g h L).filter fun p => decide (p.1 ≠ d)
end L2

namespace L2
open PySem PySem.Spec PyProof.Rows

/-- the module's facts, over the base: the heap at the law's entry without what is tracked there -/
structure Mod (K : PySem.W.Frag) (mg : Str → Option Value) (base : Heap) : Prop where
  kin : K.In base
  glob : base.Ns mainGlobals mg
  blt : ∃ mb, base.Ns builtinsNs mb ∧ ∀ x : Str, x ≠ "__name__" → mb x = bootBuiltins x
  nolimit : base.NoLimit

/-- the context: a def's body (or a comprehension's block) running. base: fixed through the whole law; s₀, H₀: the entry; outer: the frames whose slots others may change (a def's callers); stack: all frames that run;
   ex: iterators that were made ahead of the entry and are walked here (a comprehension's); fn: the names whose cells were made at the entry (a def: all; a comprehension's block: its own); calm: not within an except suite; pn: pins that every state bears; xe: what is wanted of an exception that leaves the code -/
structure Cx where
  prog : Program
  w : World
  K : PySem.W.Frag
  mg : Str → Option Value
  base : Heap
  A : Around
  N : List Str
  s₀ : Shared
  H₀ : Hp
  env : Env
  outer : List Env
  stack : List Env
  ex : List Addr
  fn : Str → Bool
  calm : Bool
  pn : List (Addr × Obj)
  xe : Value → Shared → Prop
/-- the callers' frames -/
def frs (l : List Env) : List Addr := l.filterMap (·.frame)
abbrev Cx.fs (X : Cx) : List Addr := frs X.outer

def Vis (sc : Scope) (x : Str) : Prop := sc.names.lookup x = some .local ∨ sc.names.lookup x = some .cell ∨ sc.names.lookup x = some .free
def Loc (sc : Scope) (x : Str) : Prop := sc.names.lookup x = some .local ∨ sc.names.lookup x = some .cell
def Look (env : Env) (h : Heap) (m : Str → Option Value) (x : Str) (u : Value) : Prop :=
  (env.kindOf x = some .local ∧ m x = some u) ∨ ((env.kindOf x = some .cell ∨ env.kindOf x = some .free) ∧ ∃ c, env.cells.lookup x = some c ∧ h.IsCell c (some u))

structure Cx.Ok (X : Cx) : Prop where
  mod : Mod X.K X.mg X.base
  kind : X.env.scope.kind = .function
  glob : X.env.globals = mainGlobals
  blt : X.env.builtins = builtinsNs
  above : X.s₀.heap.objs.size ≤ X.env.locals
  inj : ∀ x y c, X.env.cells.lookup x = some c → X.env.cells.lookup y = some c → x = y
  has : ∀ x, (X.env.kindOf x = some .cell ∨ X.env.kindOf x = some .free) → ∃ c, X.env.cells.lookup x = some c
  cab : ∀ x c, X.fn x = true → X.env.cells.lookup x = some c → X.s₀.heap.objs.size ≤ c
  hd : X.calm = true → X.A.handled = none
  frames : X.A.frames = some X.stack
  stk : X.stack = X.outer ∨ (X.stack = X.env :: X.outer ∧ X.env.frame = some X.env.locals)
  exf : ∀ b ∈ X.ex, b ≠ X.env.locals ∧ ∀ x c, X.env.cells.lookup x = some c → c ≠ b
  bs : ∀ b o, X.base.get? b = some o → X.s₀.heap.get? b = some o ∧ X.H₀ b = none
  bsz : X.base.objs.size ≤ X.s₀.heap.objs.size
  noex : ∀ b o, X.base.get? b = some o → b ∉ X.ex
  exfs : ∀ b ∈ X.ex, b ∉ X.fs
  funs : X.s₀.heap.FunFrames X.base X.outer
  frf : ∀ b ∈ X.fs, X.H₀ b = none

structure Inv (X : Cx) (pins : List (Addr × Obj)) (σ : List (Option V)) (H : Hp) (s : Shared) : Prop where
  ok : X.Ok
  os : s.os = X.s₀.os
  bare : AllBare s.gens
  base : Un X.fs X.ex X.H₀ H X.s₀.heap s.heap
  loc : ∃ m, s.heap.Ns X.env.locals m ∧ ∀ (i : Nat) (x : Str) (v : V), X.N[i]? = some x → σ[i]? = some (some v) → Vis X.env.scope x → ∃ u, RelV v u ∧ Look X.env s.heap m x u
  cell : ∀ x c, X.env.cells.lookup x = some c → ∃ v, s.heap.IsCell c v
  free : H X.env.locals = none
  freeC : ∀ x c, X.env.cells.lookup x = some c → H c = none
  pin : ∀ p ∈ X.pn ++ pins, s.heap.get? p.1 = some p.2 ∧ H p.1 = none ∧ p.1 ≠ X.env.locals ∧ p.1 ∉ X.fs ∧ ∀ v, p.2.data ≠ .cell v
  hok : HOk X.prog X.w H s.heap
  len : σ.length = X.N.length

section
variable {X : Cx} {pins : List (Addr × Obj)} {σ : List (Option V)} {H H' : Hp} {s : Shared} {h' : Heap}

theorem Cx.Ok.nofr (ok : X.Ok) {b : Addr} {o : Obj} (e : X.base.get? b = some o) : b ∉ X.fs := fun hb => by
  have := (ok.funs.mem hb).1
  rw [e] at this; cases this
theorem Inv.bs (I : Inv X pins σ H s) : ∀ b o, X.base.get? b = some o → s.heap.get? b = some o ∧ H b = none := fun b o e =>
  ⟨I.base.keep b o (I.ok.bs b o e).1 (I.ok.bs b o e).2 (I.ok.nofr e) (I.ok.noex b o e), I.base.free b o (I.ok.bs b o e).1 (I.ok.bs b o e).2 (I.ok.noex b o e)⟩
theorem Inv.bk (I : Inv X pins σ H s) : ∀ b o, X.base.get? b = some o → s.heap.get? b = some o := fun b o e => (I.bs b o e).1
theorem Inv.mod (I : Inv X pins σ H s) : Mod X.K X.mg X.base := I.ok.mod
theorem Inv.kIn (I : Inv X pins σ H s) : X.K.In s.heap := I.ok.mod.kin.keeps I.bk
theorem Inv.nolimit (I : Inv X pins σ H s) : s.heap.NoLimit := I.ok.mod.nolimit.keeps I.bk
/-- the frame over the base: for OpenK's rules (K.In X.base is I.mod.kin) -/
theorem Inv.fr (I : Inv X pins σ H s) : ∃ m, Fr X.base X.env.locals s.heap m :=
  let ⟨m, hn, _⟩ := I.loc
  ⟨m, hn, I.bk, Nat.le_trans I.ok.bsz I.ok.above⟩
theorem Inv.lt (I : Inv X pins σ H s) : X.env.locals < s.heap.objs.size := let ⟨_, hn, _⟩ := I.loc; hn.lt
theorem Inv.sz (I : Inv X pins σ H s) : X.s₀.heap.objs.size ≤ s.heap.objs.size := Nat.le_trans I.ok.above (Nat.le_of_lt I.lt)
theorem Inv.nofs (I : Inv X pins σ H s) {a : Addr} (h : s.heap.objs.size ≤ a) : a ∉ X.fs := fun hb => by
  obtain ⟨_, o, ho, _⟩ := I.ok.funs.mem hb
  exact absurd (Nat.lt_of_lt_of_le (Heap.lt_size ho) (Nat.le_trans I.sz h)) (Nat.lt_irrefl _)
theorem Inv.cne (I : Inv X pins σ H s) : ∀ x c, X.env.cells.lookup x = some c → c ≠ X.env.locals := fun x c e z => by
  obtain ⟨v, o, ho, hd⟩ := I.cell x c e
  obtain ⟨m, ⟨o', es, ep, ho', hd', _⟩, _⟩ := I.loc
  rw [z, ho'] at ho; cases ho; rw [hd'] at hd; cases hd
theorem Inv.funs (I : Inv X pins σ H s) : s.heap.FunFrames X.base X.outer := by
  have all : ∀ (l : List Env), (∀ b ∈ frs l, b ∈ X.fs) → X.s₀.heap.FunFrames X.base l → s.heap.FunFrames X.base l := by
    intro l
    induction l with
    | nil => intro _ _; trivial
    | cons env r ih =>
      intro hs hl
      obtain ⟨hk, ⟨L, o, hf, hn, ho, hd⟩, hr⟩ := hl
      have hL : L ∈ X.fs := hs L (by unfold frs; rw [List.filterMap_cons, hf]; exact List.mem_cons_self)
      obtain ⟨sl, e⟩ := I.base.slot L o ho (I.ok.frf L hL) hL fun z => I.ok.exfs L z hL
      exact ⟨hk, ⟨L, _, hf, hn, e, hd⟩, ih (fun b hb => hs b (by unfold frs; rw [List.filterMap_cons, hf]; exact List.mem_cons_of_mem _ hb)) hr⟩
  exact all X.outer (fun _ hb => hb) I.ok.funs

/-- the frames that run, for a call -/
theorem Inv.stack (I : Inv X pins σ H s) : s.heap.FunFrames X.base X.stack := by
  rcases I.ok.stk with e | ⟨e, hf⟩
  · rw [e]; exact I.funs
  · rw [e]
    obtain ⟨m, hn, _⟩ := I.loc
    refine .cons (by rw [I.ok.kind]; decide) hf hn ?_ I.funs
    exact Heap.get?_none_of_le (Nat.le_trans I.ok.bsz I.ok.above)
theorem Inv.stkSub (I : Inv X pins σ H s) : ∀ b ∈ frs X.stack, b ∈ X.env.locals :: X.fs := fun b hb => by
  rcases I.ok.stk with e | ⟨e, hf⟩
  · rw [e] at hb; exact List.mem_cons_of_mem _ hb
  · rw [e] at hb
    unfold frs at hb
    rw [List.filterMap_cons, hf] at hb
    exact hb
theorem Inv.stkFree (I : Inv X pins σ H s) : ∀ b ∈ frs X.stack, H b = none := fun b hb => by
  rcases List.mem_cons.mp (I.stkSub b hb) with e | hb
  · rw [e]; exact I.free
  · obtain ⟨_, o, ho, _⟩ := I.ok.funs.mem hb
    exact I.base.free b o ho (I.ok.frf b hb) fun z => I.ok.exfs b z hb

/-- THE STEP: the untracked objects but the frame and the records at ch are kept (the callers' frames up to slots), the frame's map is kept, the new abstract heap is held -/
theorem Inv.step {g' : Array GenState} {t' : Nat} {d' : Drawn} {ch : List Addr} (I : Inv X pins σ H s)
    (hch : ∀ b ∈ ch, (b ∈ X.ex ∨ X.s₀.heap.objs.size ≤ b) ∧ b ≠ X.env.locals ∧ (∀ x c, X.env.cells.lookup x = some c → c ≠ b) ∧ ∀ p ∈ X.pn ++ pins, p.1 ≠ b)
    (keep : ∀ b o, b ≠ X.env.locals → b ∉ X.fs → b ∉ ch → s.heap.get? b = some o → H b = none → h'.get? b = some o)
    (slot : ∀ b o, b ≠ X.env.locals → b ∈ X.fs → b ∉ ch → s.heap.get? b = some o → H b = none → ∃ sl, h'.get? b = some { o with slots := sl }) (free : ∀ b o, b ∉ ch → s.heap.get? b = some o → H b = none → H' b = none)
    (there : ∀ b o, b ∉ ch → s.heap.get? b = some o → ∃ o', h'.get? b = some o')
    (tups : ∀ b xs, H b = some (.tup xs) → H' b = some (.tup xs)) (frzs : ∀ b o u, H b = some (.frz o u) → H' b = some (.frz o u)) (tbls : ∀ b ps, H b = some (.tbl ps) → ∃ more, H' b = some (.tbl (ps ++ more)))
    (ns : ∀ m, s.heap.Ns X.env.locals m → h'.Ns X.env.locals m) (hok : HOk X.prog X.w H' h') (hg : AllBare g') :
    Inv X pins σ H' { s with heap := h', gens := g', drawn := d', toks := t' } := by
  have neL : ∀ b o, X.s₀.heap.get? b = some o → b ≠ X.env.locals := fun b o e => Nat.ne_of_lt (Nat.lt_of_lt_of_le (Heap.lt_size e) I.ok.above)
  have neC : ∀ b o, X.s₀.heap.get? b = some o → b ∉ X.ex → b ∉ ch := fun b o e hx hb => by
    rcases (hch b hb).1 with z | z
    · exact hx z
    · exact absurd (Nat.lt_of_lt_of_le (Heap.lt_size e) z) (Nat.lt_irrefl _)
  have cellK : ∀ x c, X.env.cells.lookup x = some c → ∀ v, s.heap.IsCell c v → h'.IsCell c v := fun x c e v ⟨o, ho, hd⟩ => by
    have nch : c ∉ ch := fun z => (hch c z).2.2.1 x c e rfl
    by_cases hc : c ∈ X.fs
    · obtain ⟨sl, q⟩ := slot c o (I.cne x c e) hc nch ho (I.freeC x c e)
      exact ⟨_, q, hd⟩
    · exact ⟨o, keep c o (I.cne x c e) hc nch ho (I.freeC x c e), hd⟩
  refine ⟨I.ok, I.os, hg, ⟨fun b o e n hb hx => ?_, fun b o e n hb hx => ?_, fun b o e n hx => ?_, fun b o e hx => ?_, fun b xs e => tups b xs (I.base.tups b xs e), fun b o xs e => frzs b o xs (I.base.frzs b o xs e), fun b ps e => ?_⟩, ?_, fun x c e => ?_, ?_, fun x c e => ?_, fun p hp => ?_, hok, I.len⟩
  · exact keep b o (neL b o e) hb (neC b o e hx) (I.base.keep b o e n hb hx) (I.base.free b o e n hx)
  · obtain ⟨sl, e1⟩ := I.base.slot b o e n hb hx
    obtain ⟨sl', e2⟩ := slot b _ (neL b o e) hb (neC b o e hx) e1 (I.base.free b o e n hx)
    exact ⟨sl', e2⟩
  · obtain ⟨o', e1⟩ := I.base.there b o e hx
    exact free b o' (neC b o e hx) e1 (I.base.free b o e n hx)
  · obtain ⟨o', e1⟩ := I.base.there b o e hx
    exact there b o' (neC b o e hx) e1
  · obtain ⟨m1, e1⟩ := I.base.tbls b ps e
    obtain ⟨m2, e2⟩ := tbls b _ e1
    exact ⟨m1 ++ m2, by rw [e2, Array.append_assoc]⟩
  · obtain ⟨m, hn, hl⟩ := I.loc
    refine ⟨m, ns m hn, fun i x v e1 e2 e3 => ?_⟩
    obtain ⟨u, r, l⟩ := hl i x v e1 e2 e3
    refine ⟨u, r, ?_⟩
    rcases l with l | ⟨k, c, e, z⟩
    · exact .inl l
    · exact .inr ⟨k, c, e, cellK x c e _ z⟩
  · obtain ⟨v, z⟩ := I.cell x c e
    exact ⟨v, cellK x c e v z⟩
  · obtain ⟨m, ⟨o, _, _, ho, _⟩, _⟩ := I.loc
    exact free _ o (fun z => (hch _ z).2.1 rfl) ho I.free
  · obtain ⟨v, o, ho, hd⟩ := I.cell x c e
    exact free c o (fun z => (hch c z).2.2.1 x c e rfl) ho (I.freeC x c e)
  · obtain ⟨e, n, ne, nf, d⟩ := I.pin p hp
    have nch : p.1 ∉ ch := fun z => (hch p.1 z).2.2.2 p hp rfl
    exact ⟨keep p.1 p.2 ne nf nch e n, free p.1 p.2 nch e n, ne, nf, d⟩
/-- .. where the frame's own object is kept too -/
theorem Inv.un {t' : Nat} (I : Inv X pins σ H s) (u : Un X.fs [] H H' s.heap h') (hok : HOk X.prog X.w H' h') : Inv X pins σ H' { s with heap := h', toks := t' } := by
  obtain ⟨m, ⟨o, es, ep, ho, r⟩, _⟩ := id I.loc
  obtain ⟨sl, hL⟩ := u.any ho I.free (by simp)
  exact I.step (g' := s.gens) (d' := s.drawn) (ch := []) (fun _ z => nomatch z) (fun b o _ hb _ e n => u.keep b o e n hb (by simp)) (fun b o _ hb _ e n => u.slot b o e n hb (by simp)) (fun b o _ e n => u.free b o e n (by simp)) (fun b o _ e => u.there b o e (by simp)) u.tups u.frzs u.tbls (fun m' hm => by
    obtain ⟨o', es', ep', ho', r'⟩ := hm
    rw [ho] at ho'; cases ho'
    exact ⟨_, es', ep', hL, r'⟩) hok I.bare
/-- behind a call (or a comprehension's block): the slots of this frame may have changed too, the records at ch may have turned -/
theorem Inv.call {g' : Array GenState} {t' : Nat} {d' : Drawn} {ch : List Addr} (I : Inv X pins σ H s) (u : Un (frs X.stack) ch H H' s.heap h') (hok : HOk X.prog X.w H' h') (hg : AllBare g')
    (hch : ∀ b ∈ ch, (b ∈ X.ex ∨ X.s₀.heap.objs.size ≤ b) ∧ b ≠ X.env.locals ∧ (∀ x c, X.env.cells.lookup x = some c → c ≠ b) ∧ ∀ p ∈ X.pn ++ pins, p.1 ≠ b) :
    Inv X pins σ H' { s with heap := h', gens := g', drawn := d', toks := t' } := by
  obtain ⟨m, ⟨o, es, ep, ho, r⟩, _⟩ := id I.loc
  obtain ⟨sl, hL⟩ := u.any ho I.free fun z => (hch _ z).2.1 rfl
  exact I.step (ch := ch) hch (fun b o hL hb hc e n => u.keep b o e n (fun z => (List.mem_cons.mp (I.stkSub b z)).elim hL hb) hc) (fun b o _ _ hc e n => u.any e n hc) (fun b o hc e n => u.free b o e n hc) (fun b o hc e => u.there b o e hc) u.tups u.frzs u.tbls (fun m' hm => by
    obtain ⟨o', es', ep', ho', r'⟩ := hm
    rw [ho] at ho'; cases ho'
    exact ⟨_, es', ep', hL, r'⟩) hok hg
/-- an untracked record of ours (an iterator) has turned -/
theorem Inv.turned {t' : Nat} {it : Addr} (I : Inv X pins σ H s) (k : ∀ b o, b ≠ it → s.heap.get? b = some o → h'.get? b = some o) (hn : H it = none) (hL : it ≠ X.env.locals)
    (h1 : it ∈ X.ex ∨ X.s₀.heap.objs.size ≤ it) (h2 : ∀ x c, X.env.cells.lookup x = some c → c ≠ it) (h3 : ∀ p ∈ X.pn ++ pins, p.1 ≠ it) : Inv X pins σ H { s with heap := h', toks := t' } := by
  have nit : ∀ b u, H b = some u → b ≠ it := fun b u e z => by rw [z, hn] at e; cases e
  refine I.step (g' := s.gens) (d' := s.drawn) (ch := [it]) (fun b hb => ?_) (fun b o _ _ hc e _ => k b o (fun z => hc (by simp [z])) e) (fun b o _ _ hc e _ => ⟨o.slots, k b o (fun z => hc (by simp [z])) e⟩) (fun _ _ _ _ n => n)
    (fun b o hc e => ⟨o, k b o (fun z => hc (by simp [z])) e⟩) (fun _ _ e => e) (fun _ _ _ e => e) (fun b ps e => ⟨#[], by rw [e]; simp⟩) (fun m hm => ?_) (fun b u e => ?_) I.bare
  · have e : b = it := by simpa using hb
    subst e
    exact ⟨h1, hL, h2, h3⟩
  · obtain ⟨o, es, ep, ho, r⟩ := hm
    exact ⟨o, es, ep, k _ o (Ne.symm hL) ho, r⟩
  · refine (I.hok b u e).stay (fun c v hc q => k c v ?_ q) (fun _ q => q) fun _ _ q => q
    rcases hc with z | z
    · rw [z]; exact nit b u e
    · exact nit c _ z
theorem Inv.tok (I : Inv X pins σ H s) (t : Nat) : Inv X pins σ H { s with toks := t } := I.un (h' := s.heap) (t' := t) Un.refl I.hok
/-- all objects kept -/
theorem Inv.kept {t' : Nat} (I : Inv X pins σ H s) (k : ∀ b u, s.heap.get? b = some u → h'.get? b = some u) : Inv X pins σ H { s with heap := h', toks := t' } := I.un (Un.kept k) (I.hok.kept k)
/-- a new object laid and tracked -/
theorem Inv.laid {a : Addr} {o : HO} {t' : Nat} (I : Inv X pins σ H s) (k : ∀ b u, s.heap.get? b = some u → h'.get? b = some u) (hp : s.heap.objs.size ≤ a) (new : ObjOk X.prog X.w (upd H a o) h' a o) :
    Inv X pins σ (upd H a o) { s with heap := h', toks := t' } := I.un (Un.laid k hp (I.hok.fresh hp)) (I.hok.laid k hp new)
/-- an object written -/
theorem Inv.write {x e : Addr} {o : HO} {t' : Nat} (I : Inv X pins σ H s) (mu : Mut (H x)) (he : e = x ∨ H e = some (.own x)) (k : ∀ b u, b ≠ e → s.heap.get? b = some u → h'.get? b = some u) (heo : ∃ u, h'.get? e = some u)
    (new : ObjOk X.prog X.w (upd H x o) h' x o) : Inv X pins σ (upd H x o) { s with heap := h', toks := t' } := I.un (Un.write mu he k heo) (I.hok.write mu he k heo new)
theorem Inv.pins_of {pins' : List (Addr × Obj)} (I : Inv X pins σ H s) (h : ∀ p ∈ pins', s.heap.get? p.1 = some p.2 ∧ H p.1 = none ∧ p.1 ≠ X.env.locals ∧ p.1 ∉ X.fs ∧ ∀ v, p.2.data ≠ .cell v) : Inv X pins' σ H s :=
  ⟨I.ok, I.os, I.bare, I.base, I.loc, I.cell, I.free, I.freeC, fun p hp => (List.mem_append.mp hp).elim (fun z => I.pin p (List.mem_append_left _ z)) (h p), I.hok, I.len⟩

theorem nodup_ix {N : List Str} (hN : N.Nodup) {i j : Nat} {x : Str} (a : N[i]? = some x) (b : N[j]? = some x) : i = j := by
  obtain ⟨h1, e1⟩ := List.getElem?_eq_some_iff.mp a
  obtain ⟨h2, e2⟩ := List.getElem?_eq_some_iff.mp b
  exact (List.getElem_inj hN).mp (e1.trans e2.symm)

/-- a name is stored; what changed -/
theorem store_ok2 {M : Model} {A : Around} {E : Value → Shared → Prop} {i : Nat} {x : Str} {v : V} {u : Value} {Q : Unit → Shared → Prop} (I : Inv X pins σ H s) (hN : X.N.Nodup) (hi : X.N[i]? = some x) (hx : Loc X.env.scope x) (r : RelV v u)
    (h : ∀ s', Inv X pins (σ.set i (some v)) H s' → (∃ a, Heap.SameBut a s.heap s'.heap ∧ (a = X.env.locals ∨ X.env.cells.lookup x = some a)) → Q () s') (hf : X.fn x = true ∨ X.env.scope.names.lookup x = some .local := by first | exact .inl rfl | exact .inr rfl | assumption) : wpAny M A (storeName X.env x u) Q E s := by
  obtain ⟨m, hn, hl⟩ := id I.loc
  have hcls : (X.env.scope.kind == .class || (X.env.scope.kind == .module && X.env.locals != X.env.globals)) = false := by rw [I.ok.kind]; rfl
  have hiσ : i < σ.length := by rw [I.len]; exact (List.getElem?_eq_some_iff.mp hi).1
  have cne := I.cne
  have tracked : ∀ {a : Addr} {h' : Heap}, (∃ o, s.heap.get? a = some o ∧ H a = none) → Heap.SameBut a s.heap h' → HOk X.prog X.w H h' := fun {a h'} ha hs b ob e => by
    obtain ⟨_, _, hfree⟩ := ha
    refine (I.hok b ob e).stay (fun c w' hc q => (hs.2 c ?_).trans q) (fun _ q => q) fun _ _ q => q
    rintro rfl
    rcases hc with rfl | hc
    · rw [hfree] at e; cases e
    · rw [hfree] at hc; cases hc
  rcases hx with hk | hk
  · refine wpAny_storeName_local hk hn (fun h' hn' hs => ?_) hcls
    obtain ⟨oL, _, _, hoL, _⟩ := id hn
    refine h _ ⟨I.ok, I.os, I.bare, ⟨fun b o e n hb hx => ?_, fun b o e n hb hx => ?_, I.base.free, fun b o e hx => ?_, I.base.tups, I.base.frzs, I.base.tbls⟩, ⟨_, hn', fun j y v' e1 e2 e3 => ?_⟩, fun y c e => ?_, I.free, I.freeC, fun p hp => ?_, tracked ⟨oL, hoL, I.free⟩ hs, by simpa using I.len⟩ ⟨_, hs, .inl rfl⟩
    · exact (hs.2 b (Nat.ne_of_lt (Nat.lt_of_lt_of_le (Heap.lt_size e) I.ok.above))).trans (I.base.keep b o e n hb hx)
    · obtain ⟨sl, e1⟩ := I.base.slot b o e n hb hx
      exact ⟨sl, (hs.2 b (Nat.ne_of_lt (Nat.lt_of_lt_of_le (Heap.lt_size e) I.ok.above))).trans e1⟩
    · obtain ⟨o', e1⟩ := I.base.there b o e hx
      exact ⟨o', (hs.2 b (Nat.ne_of_lt (Nat.lt_of_lt_of_le (Heap.lt_size e) I.ok.above))).trans e1⟩
    · by_cases hj : j = i
      · subst hj
        rw [hi] at e1; cases e1
        rw [List.getElem?_set_self hiσ] at e2
        cases e2
        exact ⟨u, r, .inl ⟨hk, by simp⟩⟩
      · rw [List.getElem?_set_ne (Ne.symm hj)] at e2
        obtain ⟨u', r', q⟩ := hl j y v' e1 e2 e3
        refine ⟨u', r', ?_⟩
        rcases q with ⟨k, e⟩ | ⟨k, c, e, z⟩
        · refine .inl ⟨k, ?_⟩
          have : y ≠ x := fun e => hj (nodup_ix hN e1 (e ▸ hi))
          simp [this, e]
        · exact .inr ⟨k, c, e, z.sameBut hs (cne y c e)⟩
    · obtain ⟨w', z⟩ := I.cell y c e
      exact ⟨w', z.sameBut hs (cne y c e)⟩
    · obtain ⟨e, n, ne, nf, d⟩ := I.pin p hp
      exact ⟨(hs.2 p.1 ne).trans e, n, ne, nf, d⟩
  · have hfn : X.fn x = true := by
      rcases hf with z | z
      · exact z
      · rw [z] at hk; cases hk
    obtain ⟨c, hc⟩ := I.ok.has x (.inl hk)
    obtain ⟨w', z⟩ := I.cell x c hc
    refine wpAny_storeName_cell I.ok.kind hk hc z (fun h' hc' hs => ?_)
    obtain ⟨oc, hoc, hocd⟩ := id z
    refine h { s with heap := h' } ⟨I.ok, I.os, I.bare, ⟨fun b o e n hb hx => ?_, fun b o e n hb hx => ?_, I.base.free, fun b o e hx => ?_, I.base.tups, I.base.frzs, I.base.tbls⟩, ⟨m, hn.sameBut hs (Ne.symm (cne x c hc)), fun j y v' e1 e2 e3 => ?_⟩, fun y c' e => ?_, I.free, I.freeC, fun p hp => ?_, tracked ⟨oc, hoc, I.freeC x c hc⟩ hs, by simpa using I.len⟩ ⟨c, hs, .inr hc⟩
    · exact (hs.2 b (Nat.ne_of_lt (Nat.lt_of_lt_of_le (Heap.lt_size e) (I.ok.cab x c hfn hc)))).trans (I.base.keep b o e n hb hx)
    · obtain ⟨sl, e1⟩ := I.base.slot b o e n hb hx
      exact ⟨sl, (hs.2 b (Nat.ne_of_lt (Nat.lt_of_lt_of_le (Heap.lt_size e) (I.ok.cab x c hfn hc)))).trans e1⟩
    · obtain ⟨o', e1⟩ := I.base.there b o e hx
      exact ⟨o', (hs.2 b (Nat.ne_of_lt (Nat.lt_of_lt_of_le (Heap.lt_size e) (I.ok.cab x c hfn hc)))).trans e1⟩
    · by_cases hj : j = i
      · subst hj
        rw [hi] at e1; cases e1
        rw [List.getElem?_set_self hiσ] at e2
        cases e2
        exact ⟨u, r, .inr ⟨.inl hk, c, hc, hc'⟩⟩
      · rw [List.getElem?_set_ne (Ne.symm hj)] at e2
        obtain ⟨u', r', q⟩ := hl j y v' e1 e2 e3
        refine ⟨u', r', ?_⟩
        rcases q with q | ⟨k, c', e, z'⟩
        · exact .inl q
        · refine .inr ⟨k, c', e, z'.sameBut hs ?_⟩
          rintro rfl
          exact hj (nodup_ix hN e1 (I.ok.inj _ _ _ e hc ▸ hi))
    · by_cases hcc : c' = c
      · subst hcc; exact ⟨_, hc'⟩
      · obtain ⟨w2, z2⟩ := I.cell y c' e
        exact ⟨w2, z2.sameBut hs hcc⟩
    · obtain ⟨e, n, ne, nf, d⟩ := I.pin p hp
      refine ⟨(hs.2 p.1 ?_).trans e, n, ne, nf, d⟩
      intro q
      rw [q, hoc] at e
      have q' : oc = p.2 := Option.some.inj e
      exact d w' (by rw [← q']; exact hocd)
theorem store_ok {M : Model} {A : Around} {E : Value → Shared → Prop} {i : Nat} {x : Str} {v : V} {u : Value} {Q : Unit → Shared → Prop} (I : Inv X pins σ H s) (hN : X.N.Nodup) (hi : X.N[i]? = some x) (hx : Loc X.env.scope x) (r : RelV v u)
    (h : ∀ s', Inv X pins (σ.set i (some v)) H s' → Q () s') (hf : X.fn x = true ∨ X.env.scope.names.lookup x = some .local := by first | exact .inl rfl | exact .inr rfl | assumption) : wpAny M A (storeName X.env x u) Q E s :=
  store_ok2 I hN hi hx r (fun s' I' _ => h s' I') hf
/-- behind a call or a block, the state as it is -/
theorem Inv.call' {s' : Shared} {ch : List Addr} (I : Inv X pins σ H s) (ho : s'.os = s.os) (u : Un (frs X.stack) ch H H' s.heap s'.heap) (hok : HOk X.prog X.w H' s'.heap) (hg : AllBare s'.gens)
    (hch : ∀ b ∈ ch, (b ∈ X.ex ∨ X.s₀.heap.objs.size ≤ b) ∧ b ≠ X.env.locals ∧ (∀ x c, X.env.cells.lookup x = some c → c ≠ b) ∧ ∀ p ∈ X.pn ++ pins, p.1 ≠ b) : Inv X pins σ H' s' := by
  obtain ⟨h', g', d', t', o'⟩ := s'
  have e : o' = s.os := ho
  subst e
  exact I.call (g' := g') (t' := t') (d' := d') u hok hg hch
end

/-! ### the judgements -/
/-- an exception: its class, its own dict's address (where it has one), the abstract heap behind it -/
abbrev XK := Value → Option Addr → Hp → Prop
abbrev St := List (Option V)
abbrev VK := V → Hp → Prop
/-- an expression's reading; a test's; an argument list's -/
abbrev TE := St → Hp → VK → Prop
abbrev TT := St → Hp → (Bool → Hp → Prop) → Prop
abbrev TA := St → Hp → (List V → Hp → Prop) → Prop
/-- what is wanted behind a statement -/
structure Ends where
  nx : St → Hp → Prop
  rt : VK
  bk : St → Hp → Prop := fun _ _ => False
  ct : St → Hp → Prop := fun _ _ => False
abbrev TS := Ends → St → Hp → Prop

def EP (X : Cx) (pins : List (Addr × Obj)) (σ : St) (Q : VK) (u : Value) (s' : Shared) : Prop := ∃ v H', Inv X pins σ H' s' ∧ RelV v u ∧ Q v H'
def TP (X : Cx) (pins : List (Addr × Obj)) (σ : St) (Q : Bool → Hp → Prop) (b : Bool) (s' : Shared) : Prop := ∃ H', Inv X pins σ H' s' ∧ Q b H'
def AP (X : Cx) (pins : List (Addr × Obj)) (σ : St) (Q : List V → Hp → Prop) (us : List Value) (s' : Shared) : Prop := ∃ vs H', Inv X pins σ H' s' ∧ Vals vs us ∧ Q vs H'
def SP (X : Cx) (pins : List (Addr × Obj)) (D : Ends) (f : Flow) (s' : Shared) : Prop :=
  match f with
  | .next => ∃ σ' H', Inv X pins σ' H' s' ∧ D.nx σ' H'
  | .brk => ∃ σ' H', Inv X pins σ' H' s' ∧ D.bk σ' H'
  | .cont => ∃ σ' H', Inv X pins σ' H' s' ∧ D.ct σ' H'
  | .ret u => ∃ v σ' H', Inv X pins σ' H' s' ∧ RelV v u ∧ D.rt v H'

def PE (X : Cx) (e : Expr) (t : TE) : Prop :=
  ∀ (pins : List (Addr × Obj)) (s : Shared) (σ : St) (H : Hp) (Q : VK), Inv X pins σ H s → t σ H Q → wpAny (model X.prog X.w) X.A (eval e X.env) (EP X pins σ Q) X.xe s
def PT (X : Cx) (e : Expr) (t : TT) : Prop :=
  ∀ (pins : List (Addr × Obj)) (s : Shared) (σ : St) (H : Hp) (Q : Bool → Hp → Prop), Inv X pins σ H s → t σ H Q → wpAny (model X.prog X.w) X.A (isTrue e X.env (eval e X.env)) (TP X pins σ Q) X.xe s
/-- a test whatever its 'whole' is (and, or) -/
def PW (X : Cx) (e : Expr) (t : TT) : Prop :=
  ∀ (whole : Sem Value) (pins : List (Addr × Obj)) (s : Shared) (σ : St) (H : Hp) (Q : Bool → Hp → Prop), Inv X pins σ H s → t σ H Q → wpAny (model X.prog X.w) X.A (isTrue e X.env whole) (TP X pins σ Q) X.xe s
theorem PW.pt {X : Cx} {e : Expr} {t : TT} (h : PW X e t) : PT X e t := h _
/-- an argument list (no star), from the left -/
def PA (X : Cx) (es : List Expr) (t : TA) : Prop :=
  ∀ (pos : Pos) (pins : List (Addr × Obj)) (s : Shared) (σ : St) (H : Hp) (Q : List V → Hp → Prop), Inv X pins σ H s → t σ H Q → wpAny (model X.prog X.w) X.A (spliced (backTo pos (starEach es X.env))) (AP X pins σ Q) X.xe s
def PS (X : Cx) (st : Stmt) (t : TS) : Prop :=
  ∀ (pins : List (Addr × Obj)) (s : Shared) (σ : St) (H : Hp) (D : Ends), Inv X pins σ H s → t D σ H → wpAny (model X.prog X.w) X.A (exec st X.env) (SP X pins D) X.xe s
def PSs (X : Cx) (st : List Stmt) (t : TS) : Prop :=
  ∀ (pins : List (Addr × Obj)) (s : Shared) (σ : St) (H : Hp) (D : Ends), Inv X pins σ H s → t D σ H → wpAny (model X.prog X.w) X.A (execs st X.env) (SP X pins D) X.xe s
/-- weaken the end -/
theorem thn {α : Type} {t : Sem α} {Q Q' : α → Shared → Prop} {M : Model} {A : Around} {E : Value → Shared → Prop} {s : Shared} (h : wpAny M A t Q E s) (hQ : ∀ a s, Q a s → Q' a s) : wpAny M A t Q' E s := wpAny_mono h hQ fun _ _ x => x
end L2

namespace L2
open PySem PySem.Spec PyProof.Rows
section
variable {X : Cx}

/-! ### names and constants -/
def tVar (i : Nat) : TE := fun σ H Q => ∃ v, σ[i]? = some (some v) ∧ Q v H
def tC (v : V) : TE := fun _ H Q => Q v H
theorem pe_var {i : Nat} {x : Str} {pos : Pos} (hN : X.N[i]? = some x) (hv : Vis X.env.scope x) (hd : (x == ("__debug__" : Str)) = false := by decide) (hcd : (x == ("__classdict__" : Str)) = false := by decide) : PE X (.Name x pos) (tVar i) := by
  intro pins s σ H Q I h
  obtain ⟨v, e, h⟩ := h
  obtain ⟨m, hn, hl⟩ := I.loc
  obtain ⟨u, r, l⟩ := hl i x v hN e hv
  have fin : EP X pins σ Q u s := ⟨v, H, I, r, h⟩
  rcases l with ⟨hk, hm⟩ | ⟨hk, c, hc, hcell⟩
  · exact wpAny_Name (wpAny_loadName_local I.ok.kind hk hn hm fin) hd
  · rcases hk with hk | hk
    · exact wpAny_Name (wpAny_loadName_cell I.ok.kind hk hc hcell fin) hd
    · exact wpAny_Name (wpAny_loadName_free I.ok.kind hk hc hcell fin hcd) hd
theorem pe_int {i j pos} : PE X (.Constant (.int i) j pos) (tC (.int i)) := fun _ _ _ H _ I h => wpAny_Constant_int ⟨.int i, H, I.tok _, ⟨_, rfl⟩, h⟩
theorem pe_bl {b j pos} : PE X (.Constant (.bool b) j pos) (tC (.bl b)) := fun _ _ _ H _ I h => Constant_bool ⟨.bl b, H, I, rfl, h⟩
theorem pe_non {j pos} : PE X (.Constant .none j pos) (tC .non) := fun _ _ _ H _ I h => Constant_none ⟨.non, H, I, rfl, h⟩
theorem pe_str {x j pos} : PE X (.Constant (.str x) j pos) (tC (.str x)) := fun _ _ _ H _ I h => Calls.Constant_str ⟨.str x, H, I.tok _, ⟨_, rfl⟩, h⟩

/-- a global name of the def -/
def Gl (X : Cx) (x : Str) : Prop := X.env.kindOf x = some .globalImplicit
theorem ld_glob {E : Value → Shared → Prop} {pins : List (Addr × Obj)} {s : Shared} {σ : St} {H : Hp} {x : Str} {u : Value} {pos : Pos} {Q : Value → Shared → Prop} (I : Inv X pins σ H s) (hg : Gl X x) (hm : X.mg x = some u) (h : Q u s)
    (hd : (x == ("__debug__" : Str)) = false := by decide) : wpAny (model X.prog X.w) X.A (eval (.Name x pos) X.env) Q E s :=
  Calls.Name_function_global I.ok.kind hg (Calls.loadGlobal_global (by rw [I.ok.glob]; exact I.mod.glob.keeps I.bk) hm h) hd
theorem ld_blt {E : Value → Shared → Prop} {pins : List (Addr × Obj)} {s : Shared} {σ : St} {H : Hp} {x : Str} {u : Value} {pos : Pos} {Q : Value → Shared → Prop} (I : Inv X pins σ H s) (hg : Gl X x) (hm : X.mg x = none) (hv : bootBuiltins x = some u) (h : Q u s)
    (hn : x ≠ "__name__" := by decide) (hd : (x == ("__debug__" : Str)) = false := by decide) : wpAny (model X.prog X.w) X.A (eval (.Name x pos) X.env) Q E s := by
  obtain ⟨mb, h1, h2⟩ := I.mod.blt
  exact Calls.Name_function_global I.ok.kind hg (Calls.loadGlobal_builtin (by rw [I.ok.glob]; exact I.mod.glob.keeps I.bk) hm (by rw [I.ok.blt]; exact h1.keeps I.bk) ((h2 x hn).trans hv) h) hd
/-- a module's constant, a class, a function, as a value -/
theorem pe_glob {x : Str} {v : V} {u : Value} {pos : Pos} (hg : Gl X x) (hm : X.mg x = some u) (r : RelV v u) (hd : (x == ("__debug__" : Str)) = false := by decide) : PE X (.Name x pos) (tC v) :=
  fun _ _ _ H _ I h => ld_glob I hg hm ⟨v, H, I, r, h⟩ hd
theorem pe_bltn {x : Str} {v : V} {u : Value} {pos : Pos} (hg : Gl X x) (hm : X.mg x = none) (hv : bootBuiltins x = some u) (r : RelV v u) (hn : x ≠ "__name__" := by decide) (hd : (x == ("__debug__" : Str)) = false := by decide) : PE X (.Name x pos) (tC v) :=
  fun _ _ _ H _ I h => ld_blt I hg hm hv ⟨v, H, I, r, h⟩ hn hd

/-! ### arithmetic -/
/-- two ints -/
def t2I (ta tb : TE) (k : Int → Int → Hp → Prop) : St → Hp → Prop := fun σ H => ta σ H fun x H1 => tb σ H1 fun y H2 => ∃ i j, x = .int i ∧ y = .int j ∧ k i j H2
def tAdd (ta tb : TE) : TE := fun σ H Q => t2I ta tb (fun i j H2 => Q (.int (i + j)) H2) σ H
def tSub (ta tb : TE) : TE := fun σ H Q => t2I ta tb (fun i j H2 => Q (.int (i - j)) H2) σ H
/-- the left factor below 2^64 -/
def tMul (ta tb : TE) : TE := fun σ H Q => t2I ta tb (fun i j H2 => (-(2 ^ 64) < i ∧ i < 2 ^ 64) ∧ Q (.int (i * j)) H2) σ H
variable {a b : Expr} {ta tb : TE} {pos : Pos}
/-! ### comparisons -/
def PC (X : Cx) (op : CmpOp) (a b : Expr) (t : TE) : Prop :=
  ∀ (pins : List (Addr × Obj)) (s : Shared) (σ : St) (H : Hp) (Q : VK), Inv X pins σ H s → t σ H Q →
    wpAny (model X.prog X.w) X.A (eval a X.env) (fun v s₁ => wpAny (model X.prog X.w) X.A (eval b X.env) (fun u s₂ => wpAny (model X.prog X.w) X.A (compareOp op v u) (EP X pins σ Q) X.xe s₂) X.xe s₁) X.xe s
theorem nobehind (b : Expr) {op : CmpOp} (h : op ≠ .In) (h2 : op ≠ .NotIn) : behindInMarks op b = false := by
  have e1 : (op == CmpOp.In) = false := by cases op <;> first | rfl | exact absurd rfl h
  have e2 : (op == CmpOp.NotIn) = false := by cases op <;> first | rfl | exact absurd rfl h2
  cases b <;> simp [behindInMarks, e1, e2]
def tCmp (p : Int → Int → Bool) (ta tb : TE) : TE := fun σ H Q => t2I ta tb (fun i j H2 => Q (.bl (p i j)) H2) σ H
abbrev tLt : TE → TE → TE := tCmp fun i j => decide (i < j)
abbrev tLe : TE → TE → TE := tCmp fun i j => decide (i ≤ j)
abbrev tGt : TE → TE → TE := tCmp fun i j => decide (j < i)
abbrev tGe : TE → TE → TE := tCmp fun i j => decide (j ≤ i)
abbrev tEqI : TE → TE → TE := tCmp fun i j => decide (i = j)
abbrev tNeI : TE → TE → TE := tCmp fun i j => !decide (i = j)
/-- is None -/
def tIsN (ta : TE) : TE := fun σ H Q => ta σ H fun x H1 => Q (.bl (decide (x = .non))) H1
def tNotN (ta : TE) : TE := fun σ H Q => ta σ H fun x H1 => Q (.bl (!decide (x = .non))) H1
theorem RelV.none_iff {x : V} {v : Value} (r : RelV x v) : (v == Value.none) = decide (x = .non) := by
  cases x with
  | non => cases r; rfl
  | bl _ => cases r; rfl
  | int _ => obtain ⟨t, rfl⟩ := r; rfl
  | str _ => obtain ⟨t, rfl⟩ := r; rfl
  | byt _ => obtain ⟨t, rfl⟩ := r; rfl
  | flt _ => obtain ⟨t, rfl⟩ := r; rfl
  | ref _ => cases r; rfl
  | ty _ => cases r; rfl
theorem pc_isN {j pos'} (ha : PE X a ta) : PC X .Is a (.Constant .none j pos') (tIsN ta) := by
  intro pins s σ H Q I h
  refine thn (ha pins s σ H _ I h) fun v s1 ⟨x, H1, I1, r1, q1⟩ => ?_
  exact Constant_none (is_none_gen ⟨.bl _, H1, I1, by rw [r1.none_iff]; rfl, q1⟩)
/-- a comparison as a value, as a test -/
def tB (t : TE) : TT := fun σ H Q => t σ H fun x H1 => ∃ c, x = .bl c ∧ Q c H1
theorem pe_cmp {op : CmpOp} {t : TE} (h : PC X op a b t) (h1 : behindInMarks op b = false := by first | exact nobehind _ (by decide) (by decide) | rfl) : PE X (.Compare a [op] [b] pos) t := fun pins s σ H Q I hw => wpAny_Compare1 (h pins s σ H Q I hw) h1
theorem pt_cmp {op : CmpOp} {t : TE} (h : PC X op a b t) (h1 : behindInMarks op b = false := by first | exact nobehind _ (by decide) (by decide) | rfl) : PT X (.Compare a [op] [b] pos) (tB t) := by
  intro pins s σ H Q I hw
  refine wpAny_isTrue_Compare1 (thn (h pins s σ H _ I hw) fun v s1 h1 => thn h1 fun u s2 h2 => thn h2 fun c s3 ⟨x, H1, I1, r1, q1⟩ => ?_) h1
  obtain ⟨d, rfl, q⟩ := q1
  cases r1
  exact wpAny_truthy_bool ⟨H1, I1, q⟩
/-- an expression whose value is a bool, as a test -/
theorem pt_val {e : Expr} {t : TE} (h : PE X e t) (he : ∀ whole, isTrue e X.env whole = (do let v ← whole; standAt e.pos; holding [v] (truthy v)) := by intro _; rfl) : PT X e (tB t) := by
  intro pins s σ H Q I hw
  refine isTrue_plain (thn (h pins s σ H _ I hw) fun v s1 ⟨x, H1, I1, r1, q1⟩ => ?_) (he _)
  obtain ⟨d, rfl, q⟩ := q1
  cases r1
  exact wpAny_truthy_bool ⟨H1, I1, q⟩

/-! ### and, or, not -/
variable {tA tB' : TT} {rest : List Expr}
def tAnd (t u : TT) : TT := fun σ H Q => t σ H fun c H1 => if c = true then u σ H1 Q else Q false H1
def tOr (t u : TT) : TT := fun σ H Q => t σ H fun c H1 => if c = true then Q true H1 else u σ H1 Q
def tNot (t : TT) : TT := fun σ H Q => t σ H fun c H1 => Q (!c) H1
theorem pw_or1 (ha : PT X a tA) : PW X (.BoolOp .Or [a] pos) tA := by
  intro wh pins s σ H Q I h
  refine isTrue_or (thn (ha pins s σ H Q I h) fun c s1 e => ?_)
  cases c with
  | false => exact isTrue_or_nil e
  | true => exact e
theorem pw_or (ha : PT X a tA) (hb : PW X (.BoolOp .Or (b :: rest) pos) tB') : PW X (.BoolOp .Or (a :: b :: rest) pos) (tOr tA tB') := by
  intro wh pins s σ H Q I h
  refine isTrue_or (thn (ha pins s σ H _ I h) fun c s1 ⟨H1, I1, q1⟩ => ?_)
  cases c with
  | true => exact ⟨H1, I1, q1⟩
  | false => exact hb wh pins s1 σ H1 Q I1 q1
theorem pt_not (ha : PT X a tA) : PT X (.UnaryOp .Not a pos) (tNot tA) := by
  intro pins s σ H Q I h
  exact isTrue_not (ha pins s σ H (fun c H1 => Q (!c) H1) I h)
/-- .. as values (bools) -/
def tAndV (ta tb : TE) : TE := fun σ H Q => ta σ H fun x H1 => ∃ c, x = .bl c ∧ if c = true then tb σ H1 Q else Q (.bl false) H1
def tOrV (ta tb : TE) : TE := fun σ H Q => ta σ H fun x H1 => ∃ c, x = .bl c ∧ if c = true then Q (.bl true) H1 else tb σ H1 Q
def tNotV (ta : TE) : TE := fun σ H Q => ta σ H fun x H1 => ∃ c, x = .bl c ∧ Q (.bl (!c)) H1
theorem pe_one {op} {t : TE} (h : PE X a t) : PE X (.BoolOp op [a] pos) t := fun pins s σ H Q I hw => BoolOp_one (h pins s σ H Q I hw)
theorem pe_and (ha : PE X a ta) (hb : PE X (.BoolOp .And (b :: rest) pos) tb) : PE X (.BoolOp .And (a :: b :: rest) pos) (tAndV ta tb) := by
  intro pins s σ H Q I h
  refine BoolOp_and (thn (ha pins s σ H _ I h) fun v s1 ⟨x, H1, I1, r1, q1⟩ => ?_)
  obtain ⟨c, rfl, q1⟩ := q1
  cases r1
  refine wpAny_truthy_bool ?_
  cases c with
  | true => exact hb pins s1 σ H1 Q I1 q1
  | false => exact ⟨.bl false, H1, I1, rfl, q1⟩
theorem pe_or (ha : PE X a ta) (hb : PE X (.BoolOp .Or (b :: rest) pos) tb) : PE X (.BoolOp .Or (a :: b :: rest) pos) (tOrV ta tb) := by
  intro pins s σ H Q I h
  refine BoolOp_or (thn (ha pins s σ H _ I h) fun v s1 ⟨x, H1, I1, r1, q1⟩ => ?_)
  obtain ⟨c, rfl, q1⟩ := q1
  cases r1
  refine wpAny_truthy_bool ?_
  cases c with
  | false => exact hb pins s1 σ H1 Q I1 q1
  | true => exact ⟨.bl true, H1, I1, rfl, q1⟩
theorem pe_not (ha : PE X a ta) : PE X (.UnaryOp .Not a pos) (tNotV ta) := by
  intro pins s σ H Q I h
  refine UnaryOp_ (thn (ha pins s σ H _ I h) fun v s1 ⟨x, H1, I1, r1, q1⟩ => ?_)
  obtain ⟨c, rfl, q1⟩ := q1
  cases r1
  exact not_of (wpAny_truthy_bool ⟨.bl (!c), H1, I1, rfl, q1⟩)
/-- a if t else b -/
def tIf (t : TT) (ta tb : TE) : TE := fun σ H Q => t σ H fun c H1 => if c = true then ta σ H1 Q else tb σ H1 Q
end
end L2

namespace L2
open PySem PySem.Spec PyProof.Rows

/-! ### a list, a tuple that is read: tracked, frozen, or an object of the module -/
def SqL (K : PySem.W.Frag) (H : Hp) (a : Addr) (xs : List V) : Prop :=
  Rd H a (.lst xs) ∨
    ∃ (o : Obj) (its : Array Value) (n : Nat), K.lookup a = some o ∧ o.cls = .type "list" ∧ o.dict = none ∧ o.data = .seq its n ∧ its.size ≤ sizeLine ∧ Vals xs its.toList
def SqT (K : PySem.W.Frag) (H : Hp) (a : Addr) (xs : List V) : Prop :=
  Rd H a (.tup xs) ∨
    ∃ (o : Obj) (its : Array Value) (n : Nat), K.lookup a = some o ∧ o.cls = .type "tuple" ∧ o.data = .seq its n ∧ its.size ≤ sizeLine ∧ Vals xs its.toList
def absV : Value → Option V
  | .none => some .non
  | .bool b => some (.bl b)
  | .int i _ => some (.int i)
  | .str x _ => some (.str x)
  | .bytes b _ => some (.byt b)
  | .float b _ => some (.flt b)
  | .ref a => some (.ref a)
  | .type n => some (.ty n)
  | _ => none
theorem RelV.abs {x : V} {u : Value} (r : RelV x u) : absV u = some x := by
  cases x with
  | non => cases r; rfl
  | bl _ => cases r; rfl
  | int _ => obtain ⟨t, rfl⟩ := r; rfl
  | str _ => obtain ⟨t, rfl⟩ := r; rfl
  | byt _ => obtain ⟨t, rfl⟩ := r; rfl
  | flt _ => obtain ⟨t, rfl⟩ := r; rfl
  | ref _ => cases r; rfl
  | ty _ => cases r; rfl
theorem RelV.inj {x y : V} {u : Value} (r : RelV x u) (q : RelV y u) : x = y := Option.some.inj (r.abs.symm.trans q.abs)
theorem Vals.inj : ∀ {xs ys : List V} {us : List Value}, Vals xs us → Vals ys us → xs = ys
  | _, _, _, .nil, .nil => rfl
  | _, _, _, .cons r t, .cons r' t' => by rw [r.inj r', Vals.inj t t']
section
variable {X : Cx} {pins : List (Addr × Obj)} {σ : St} {H : Hp} {s : Shared} {a : Addr} {xs ys : List V}
theorem SqL.of {K : PySem.W.Frag} (h : H a = some (.lst xs)) : SqL K H a xs := .inl (.inl h)
theorem SqT.of {K : PySem.W.Frag} (h : H a = some (.tup xs)) : SqT K H a xs := .inl (.inl h)
theorem Inv.list (I : Inv X pins σ H s) (h : SqL X.K H a xs) : ∃ its : List Value, Vals xs its ∧ PlainL s.heap a its.toArray ∧ xs.length ≤ sizeLine := by
  rcases h with h | ⟨o, its, n, hk, hc, hd, hs, hz, r⟩
  · obtain ⟨z, its, n, r, e⟩ := h.ok I.hok
    exact ⟨its, r, ⟨_, n, e, rfl, rfl, rfl⟩, z⟩
  · refine ⟨its.toList, r, ⟨o, n, I.kIn a o hk, hc, hd, by simpa using hs⟩, ?_⟩
    have e := r.length
    simp only [Array.length_toList] at e
    omega
theorem Inv.tuple (I : Inv X pins σ H s) (h : SqT X.K H a xs) : ∃ its : List Value, Vals xs its ∧ IsTup s.heap a its.toArray ∧ xs.length ≤ sizeLine := by
  rcases h with h | ⟨o, its, n, hk, hc, hs, hz, r⟩
  · obtain ⟨z, its, r, p⟩ := h.ok I.hok
    exact ⟨its, r, p, z⟩
  · refine ⟨its.toList, r, ⟨o, I.kIn a o hk, hc, n, by simpa using hs⟩, ?_⟩
    have e := r.length
    simp only [Array.length_toList] at e
    omega
theorem Inv.list_inj (I : Inv X pins σ H s) (h : SqL X.K H a xs) (h' : SqL X.K H a ys) : xs = ys := by
  obtain ⟨its, r, ⟨o, n, e, _, _, d⟩, _⟩ := I.list h
  obtain ⟨its', r', ⟨o', n', e', _, _, d'⟩, _⟩ := I.list h'
  rw [e] at e'; cases e'
  rw [d] at d'
  injection d' with d1 _
  have : its = its' := by simpa using congrArg Array.toList d1
  subst this
  exact r.inj r'
end

/-! ### another wish about exceptions -/
abbrev Cx.wish (X : Cx) (E : Value → Shared → Prop) : Cx := { X with xe := E }
/-- no exception leaves -/
abbrev Cx.nox (X : Cx) : Cx := X.wish fun _ _ => False
theorem Cx.Ok.wish {X : Cx} (ok : X.Ok) (E : Value → Shared → Prop) : (X.wish E).Ok :=
  ⟨ok.mod, ok.kind, ok.glob, ok.blt, ok.above, ok.inj, ok.has, ok.cab, ok.hd, ok.frames, ok.stk, ok.exf, ok.bs, ok.bsz, ok.noex, ok.exfs, ok.funs, ok.frf⟩
theorem Cx.Ok.unwish {X : Cx} {E : Value → Shared → Prop} (ok : (X.wish E).Ok) : X.Ok :=
  ⟨ok.mod, ok.kind, ok.glob, ok.blt, ok.above, ok.inj, ok.has, ok.cab, ok.hd, ok.frames, ok.stk, ok.exf, ok.bs, ok.bsz, ok.noex, ok.exfs, ok.funs, ok.frf⟩
section
variable {X : Cx} {pins : List (Addr × Obj)} {σ : St} {H : Hp} {s : Shared} {E : Value → Shared → Prop}
theorem Inv.wish (I : Inv X pins σ H s) (E : Value → Shared → Prop) : Inv (X.wish E) pins σ H s := ⟨I.ok.wish E, I.os, I.bare, I.base, I.loc, I.cell, I.free, I.freeC, I.pin, I.hok, I.len⟩
theorem Inv.unwish (I : Inv (X.wish E) pins σ H s) : Inv X pins σ H s := ⟨I.ok.unwish, I.os, I.bare, I.base, I.loc, I.cell, I.free, I.freeC, I.pin, I.hok, I.len⟩
theorem SP.unwish {D : Ends} {f : Flow} {s' : Shared} (h : SP (X.wish E) pins D f s') : SP X pins D f s' := by
  cases f with
  | next => obtain ⟨σ', H', I, q⟩ := h; exact ⟨σ', H', I.unwish, q⟩
  | brk => obtain ⟨σ', H', I, q⟩ := h; exact ⟨σ', H', I.unwish, q⟩
  | cont => obtain ⟨σ', H', I, q⟩ := h; exact ⟨σ', H', I.unwish, q⟩
  | ret u => obtain ⟨v, σ', H', I, r, q⟩ := h; exact ⟨v, σ', H', I.unwish, r, q⟩
theorem PE.nox {e : Expr} {t : TE} (h : PE X.nox e t) : PE X e t := fun pins s σ H Q I hw =>
  wpAny_mono (h pins s σ H Q (I.wish _) hw) (fun _ _ ⟨v, H', I', r, q⟩ => ⟨v, H', I'.unwish, r, q⟩) fun _ _ z => False.elim z
theorem PT.nox {e : Expr} {t : TT} (h : PT X.nox e t) : PT X e t := fun pins s σ H Q I hw =>
  wpAny_mono (h pins s σ H Q (I.wish _) hw) (fun _ _ ⟨H', I', q⟩ => ⟨H', I'.unwish, q⟩) fun _ _ z => False.elim z
theorem PSs.nox {st : List Stmt} {t : TS} (h : PSs X.nox st t) : PSs X st t := fun pins s σ H D I hw =>
  wpAny_mono (h pins s σ H D (I.wish _) hw) (fun _ _ q => q.unwish) fun _ _ z => False.elim z
end

/-! ### blocks and small statements -/
section
variable {X : Cx} {st : Stmt} {rest : List Stmt} {t u : TS} {e : Expr} {te : TE} {pos : Pos}
def tNext : TS := fun D σ H => D.nx σ H
def tSeq (t u : TS) : TS := fun D σ H => t { D with nx := u D } σ H
theorem pss_nil : PSs X [] tNext := fun _ _ σ H _ I h => wpAny_execs_nil ⟨σ, H, I, h⟩
theorem pss_cons (h1 : PS X st t) (h2 : PSs X rest u) : PSs X (st :: rest) (tSeq t u) := by
  intro pins s σ H D I h
  refine wpAny_execs_cons (thn (h1 pins s σ H { D with nx := u D } I h) fun f s1 q => ?_)
  cases f with
  | next =>
    obtain ⟨σ', H', I', q⟩ := q
    exact h2 pins s1 σ' H' D I' q
  | ret v => exact q
  | brk => exact q
  | cont => exact q
theorem pss_one (h1 : PS X st t) : PSs X [st] t := by
  intro pins s σ H D I h
  refine wpAny_execs_cons (thn (h1 pins s σ H D I h) fun f s1 q => ?_)
  cases f with
  | next => exact wpAny_execs_nil q
  | ret v => exact q
  | brk => exact q
  | cont => exact q
def tBreak : TS := fun D σ H => D.bk σ H
def tCont : TS := fun D σ H => D.ct σ H
/-- in a def's body nothing is shown -/
theorem Inv.quiet {pins : List (Addr × Obj)} {σ : St} {H : Hp} {s : Shared} (I : Inv X pins σ H s) : interactive X.env = false := by simp [interactive, I.ok.kind]
/-- an expression whose value is dropped -/
def tDrop (te : TE) : TS := fun D σ H => te σ H fun _ H1 => D.nx σ H1
theorem ps_expr (he : PE X e te) (hs : swapsWith e none pos.line X.env = pure false := by rfl) : PS X (.Expr e pos) (tDrop te) := by
  intro pins s σ H D I h
  exact wpAny_Expr_any (thn (he pins s σ H _ I h) fun v s1 ⟨x, H1, I1, r1, q1⟩ => ⟨σ, H1, I1, q1⟩) I.quiet hs
def tRet (te : TE) : TS := fun D σ H => te σ H D.rt
theorem ps_ret (he : PE X e te) : PS X (.Return (some e) pos) (tRet te) := by
  intro pins s σ H D I h
  exact wpAny_Return_some (thn (he pins s σ H _ I h) fun v s1 ⟨x, H1, I1, r1, q1⟩ => ⟨x, σ, H1, I1, r1, q1⟩)
def tRetN : TS := fun D _ H => D.rt .non H
def tIfS (c : TT) (t u : TS) : TS := fun D σ H => c σ H fun b H1 => if b = true then t D σ H1 else u D σ H1
theorem ps_if {c : Expr} {a b : List Stmt} {tc : TT} (hc : PT X c tc) (ha : PSs X a t) (hb : PSs X b u) : PS X (.If c a b pos) (tIfS tc t u) := by
  intro pins s σ H D I h
  refine wpAny_If (thn (hc pins s σ H _ I h) fun d s1 ⟨H1, I1, q1⟩ => ?_)
  cases d with
  | true => exact ha pins s1 σ H1 D I1 q1
  | false => exact hb pins s1 σ H1 D I1 q1
/-- code that the proof never comes to -/
def tNever : TS := fun _ _ _ => False
theorem ps_never : PS X st tNever := fun _ _ _ _ _ _ h => h.elim
end

/-! ### targets -/
abbrev TG := V → St → Hp → (St → Hp → Prop) → Prop
abbrev TGs := List V → St → Hp → (St → Hp → Prop) → Prop
def PG (X : Cx) (target : Expr) (t : TG) : Prop :=
  ∀ (pins : List (Addr × Obj)) (s : Shared) (σ : St) (H : Hp) (v : V) (u : Value) (Q : St → Hp → Prop), Inv X pins σ H s → RelV v u → t v σ H Q →
    wpAny (model X.prog X.w) X.A (assign target X.env u) (fun _ s' => ∃ σ' H', Inv X pins σ' H' s' ∧ Q σ' H') X.xe s
/-- several targets, one after another -/
def PGs (X : Cx) (ts : List Expr) (t : TGs) : Prop :=
  ∀ (pins : List (Addr × Obj)) (s : Shared) (σ : St) (H : Hp) (vs : List V) (us : List Value) (Q : St → Hp → Prop), Inv X pins σ H s → Vals vs us → t vs σ H Q →
    wpAny (model X.prog X.w) X.A (assignInOrder ((assignEach ts X.env).map (·.2)) us) (fun _ s' => ∃ σ' H', Inv X pins σ' H' s' ∧ Q σ' H') X.xe s
/-- o[i] = v, by values -/
abbrev TSet := V → V → V → Hp → (Hp → Prop) → Prop
def PSet (X : Cx) (t : TSet) : Prop :=
  ∀ (pins : List (Addr × Obj)) (s : Shared) (σ : St) (H : Hp) (o i v : V) (ov iv u : Value) (Q : Hp → Prop), Inv X pins σ H s → RelV o ov → RelV i iv → RelV v u → t o i v H Q →
    wpAny (model X.prog X.w) X.A (setItem ov iv u) (fun _ s' => ∃ H', Inv X pins σ H' s' ∧ Q H') X.xe s
/-- a op= b, by values -/
abbrev TIp := V → V → Hp → VK → Prop
def PIp (X : Cx) (op : Operator) (t : TIp) : Prop :=
  ∀ (pins : List (Addr × Obj)) (s : Shared) (σ : St) (H : Hp) (x y : V) (v u : Value) (Q : VK), Inv X pins σ H s → RelV x v → RelV y u → t x y H Q →
    wpAny (model X.prog X.w) X.A (inplaceOp op v u) (EP X pins σ Q) X.xe s
section
variable {X : Cx} {pos : Pos}
def gName (i : Nat) : TG := fun v σ H Q => Q (σ.set i (some v)) H
theorem pg_name {i : Nat} {x : Str} (hN : X.N.Nodup) (hi : X.N[i]? = some x) (hx : Loc X.env.scope x) (hf : X.fn x = true ∨ X.env.scope.names.lookup x = some .local := by first | exact .inl rfl | exact .inr rfl | assumption) : PG X (.Name x pos) (gName i) := by
  intro pins s σ H v u Q I r h
  exact wpAny_assign_Name (store_ok I hN hi hx r (fun s' I' => ⟨_, H, I', h⟩) hf)
def gNil : TGs := fun vs σ H Q => vs = [] ∧ Q σ H
def gCons (t : TG) (u : TGs) : TGs := fun vs σ H Q => ∃ v r, vs = v :: r ∧ t v σ H fun σ' H' => u r σ' H' Q
theorem pgs_nil : PGs X [] gNil := by
  intro pins s σ H vs us Q I r h
  obtain ⟨e, h⟩ := h
  subst e
  cases r
  exact assignInOrder_nil ⟨σ, H, I, h⟩
theorem pgs_cons {e : Expr} {es : List Expr} {t : TG} {u : TGs} (h1 : PG X e t) (h2 : PGs X es u)
    (hs : (assignEach (e :: es) X.env).map (·.2) = assign e X.env :: (assignEach es X.env).map (·.2) := by rfl) : PGs X (e :: es) (gCons t u) := by
  intro pins s σ H vs us Q I r h
  obtain ⟨v, vr, e1, h⟩ := h
  subst e1
  cases r with
  | cons r rr =>
    rw [hs]
    refine assignInOrder_cons (thn (h1 pins s σ H _ _ _ I r h) fun _ s1 ⟨σ1, H1, I1, q1⟩ => ?_)
    exact h2 pins s1 σ1 H1 _ _ Q I1 rr q1
/-- (a, b, ..) = a tuple of that length -/
def gTup (K : PySem.W.Frag) (n : Nat) (t : TGs) : TG := fun v σ H Q => ∃ a xs, v = .ref a ∧ SqT K H a xs ∧ xs.length = n ∧ t xs σ H Q
theorem pg_tup {es : List Expr} {k : Nat} {t : TGs} {n : Nat} (hc : X.calm = true) (h : PGs X es t)
    (hn : (assignEach es X.env).length = n := by rfl) (hst : (assignEach es X.env).findIdx? (·.1) = none := by rfl) : PG X (.Tuple es k pos) (gTup X.K n t) := by
  intro pins s σ H v u Q I r hw
  obtain ⟨a, xs, e1, hq, hl, hw⟩ := hw
  subst e1
  cases r
  obtain ⟨its, rv, ht, hz⟩ := I.tuple hq
  refine assign_Tuple_tuple (I.ok.hd hc) ht (by simp [hn, ← hl, rv.length]) hst fun h' hx => ?_
  have I1 : Inv X pins σ H { s with heap := h' } := I.kept (t' := s.toks) fun b o e => hx b o (Nat.ne_of_lt (Heap.lt_size e)) e
  exact h pins _ σ H xs _ Q I1 (by simpa using rv) hw
/-- o[i] = .. -/
def gSub (to ti : TE) (t : TSet) : TG := fun v σ H Q => to σ H fun o H1 => ti σ H1 fun i H2 => t o i v H2 fun H3 => Q σ H3
/-- target = value -/
def tAsg (te : TE) (g : TG) : TS := fun D σ H => te σ H fun x H1 => g x σ H1 D.nx
theorem ps_asg {tg e : Expr} {te : TE} {g : TG} (he : PE X e te) (hg : PG X tg g) (hs : swapsWithSole [tg] e pos.line X.env = pure false := by rfl) (hw : swappedStores [tg] e X.env = pure none := by rfl)
    (h1 : (assignEach [tg] X.env).map (·.2) = [assign tg X.env] := by rfl) : PS X (.Assign [tg] e pos) (tAsg te g) := by
  intro pins s σ H D I h
  refine wpAny_Assign_stores (thn (he pins s σ H _ I h) fun v s1 ⟨x, H1, I1, r1, q1⟩ => ?_) hs hw
  rw [h1]
  exact thn (hg pins s1 σ H1 x v _ I1 r1 q1) fun _ s2 q => q
/-- name = value -/
theorem ps_set {i : Nat} {x : Str} {e : Expr} {te : TE} {pos' : Pos} (hN : X.N.Nodup) (hi : X.N[i]? = some x) (hx : Loc X.env.scope x) (he : PE X e te) (hs : swapsWith e (some (.Name x pos')) pos.line X.env = pure false := by rfl) (hf : X.fn x = true ∨ X.env.scope.names.lookup x = some .local := by first | exact .inl rfl | exact .inr rfl | assumption) :
    PS X (.Assign [.Name x pos'] e pos) (tAsg te (gName i)) := by
  intro pins s σ H D I h
  refine wpAny_Assign_Name (thn (he pins s σ H _ I h) fun v s1 ⟨y, H1, I1, r1, q1⟩ => ?_) hs
  exact store_ok I1 hN hi hx r1 (fun s2 I2 => ⟨_, H1, I2, q1⟩) hf
/-- a, b = x, y with plain local names: stored from the right; the pair itself is not tracked (the opening rows as in PyProof/Rows/TupAssign.lean:23) -/
def tPar (i j : Nat) (ta : TA) : TS := fun D σ H => ta σ H fun vs H1 => ∃ v w, vs = [v, w] ∧ D.nx ((σ.set i (some v)).set j (some w)) H1
/-- name op= e -/
def tAug (i : Nat) (te : TE) (ti : TIp) : TS := fun D σ H => ∃ x, σ[i]? = some (some x) ∧ te σ H fun y H1 => ti x y H1 fun z H2 => D.nx (σ.set i (some z)) H2
/-- o[i] op= e -/
def tAugS (to ti te : TE) (tget : V → V → Hp → VK → Prop) (tip : TIp) (tset : TSet) : TS := fun D σ H => to σ H fun o H1 => ti σ H1 fun i H2 => tget o i H2 fun x H3 => te σ H3 fun y H4 => tip x y H4 fun z H5 => tset o i z H5 fun H6 => D.nx σ H6
/-- o[i], by values -/
def PGet (X : Cx) (t : V → V → Hp → VK → Prop) : Prop :=
  ∀ (pins : List (Addr × Obj)) (s : Shared) (σ : St) (H : Hp) (o i : V) (ov iv : Value) (Q : VK), Inv X pins σ H s → RelV o ov → RelV i iv → t o i H Q →
    wpAny (model X.prog X.w) X.A (getItem ov iv) (EP X pins σ Q) X.xe s
/-- ints -/
def ipI (f : Int → Int → Int) : TIp := fun x y H Q => ∃ i j, x = .int i ∧ y = .int j ∧ Q (.int (f i j)) H
end

/-! ### while -/
section
variable {X : Cx} {pos : Pos}
/-- the invariant W with its measure -/
def tWhile (c : TT) (tb : TS) : TS := fun D σ H => ∃ W : Nat → St → Hp → Prop, (∃ m, W m σ H) ∧ ∀ m σ H, W m σ H →
  c σ H fun b H1 => if b = true then ∃ N : St → Hp → Prop, (∀ σ' H', N σ' H' → ∃ m', m' < m ∧ W m' σ' H') ∧ tb { D with nx := N, ct := N, bk := D.nx } σ H1 else D.nx σ H1
end

/-! ### what a loop or a comprehension walks -/
/-- at turn i: it yields x (the heap may grow), or it stops -/
structure It where
  go : Nat → Hp → Prop
  yld : Nat → Hp → V → Hp → Prop
  stop : Nat → Hp → Prop
/-- the iterator's own objects may turn: they are not the frame's, not pinned, younger than the entry (or a comprehension's own) -/
def FpOk (X : Cx) (pins : List (Addr × Obj)) (H : Hp) (b : Addr) : Prop :=
  H b = none ∧ b ≠ X.env.locals ∧ b ∉ X.fs ∧ (b ∈ X.ex ∨ X.s₀.heap.objs.size ≤ b) ∧ (∀ x c, X.env.cells.lookup x = some c → c ≠ b) ∧ ∀ p ∈ X.pn ++ pins, p.1 ≠ b
theorem Inv.fpOk {X : Cx} {pins : List (Addr × Obj)} {σ : St} {H H' : Hp} {s : Shared} {b : Addr} (I : Inv X pins σ H s) (hb : s.heap.objs.size ≤ b) (hn : H' b = none) : FpOk X pins H' b := by
  refine ⟨hn, Nat.ne_of_gt (Nat.lt_of_lt_of_le I.lt hb), I.nofs hb, .inr (Nat.le_trans I.sz hb), fun x c e z => ?_, fun p hp z => ?_⟩
  · obtain ⟨v, q⟩ := I.cell x c e
    exact absurd (Nat.lt_of_lt_of_le q.lt (by rw [z]; exact hb)) (Nat.lt_irrefl _)
  · exact absurd (Nat.lt_of_lt_of_le (Heap.lt_size (I.pin p hp).1) (by rw [z]; exact hb)) (Nat.lt_irrefl _)
structure Turn (P : Program) (w : World) (K : PySem.W.Frag) (tg : Expr) (J : It) (fp : List Addr) (it : Addr) (tn : Nat → Heap → Prop) : Prop where
  mem : it ∈ fp
  obj : ∀ i h, tn i h → ∀ b ∈ fp, ∃ o, h.get? b = some o ∧ ∀ v, o.data ≠ .cell v
  keep : ∀ i h h', tn i h → (∀ b ∈ fp, ∀ o, h.get? b = some o → h'.get? b = some o) → tn i h'
  item : ∀ (X : Cx), X.prog = P → X.w = w → X.K = K → X.calm = true → ∀ (i : Nat) (pins : List (Addr × Obj)) (s : Shared) (σ : St) (H : Hp) (E : Value → Shared → Prop), Inv X pins σ H s → (∀ b ∈ fp, FpOk X pins H b) → tn i s.heap → J.go i H →
    wpAny (model P w) X.A (pyNext (.ref it)) (fun r s1 => ∃ u, r = some u ∧
      wpAny (model P w) X.A (letOwnedTupleGo tg (.ref it) u) (fun _ s2 => ∃ x H', Inv X pins σ H' s2 ∧ RelV x u ∧ J.yld i H x H' ∧ tn (i + 1) s2.heap ∧ ∀ b ∈ fp, H' b = none) E s1) E s
  done : ∀ (X : Cx), X.prog = P → X.w = w → X.K = K → X.calm = true → ∀ (i : Nat) (pins : List (Addr × Obj)) (s : Shared) (σ : St) (H : Hp) (E : Value → Shared → Prop), Inv X pins σ H s → (∀ b ∈ fp, FpOk X pins H b) → tn i s.heap → J.stop i H →
    wpAny (model P w) X.A (pyNext (.ref it)) (fun r s1 => r = none ∧ Inv X pins σ H s1) E s
  self : ∀ (A : Around) (i : Nat) (s : Shared) (Q : Value → Shared → Prop) (E : Value → Shared → Prop), tn i s.heap → Q (.ref it) s → wpAny (model P w) A (pyIter (.ref it)) Q E s
abbrev TI := St → Hp → (It → Hp → Prop) → Prop
/-- an iterator has come -/
def PIE (X : Cx) (pins : List (Addr × Obj)) (σ : St) (tg : Expr) (R : It → Hp → Prop) (itv : Value) (s2 : Shared) : Prop :=
  ∃ (it : Addr) (fp : List Addr) (tn : Nat → Heap → Prop) (J : It) (H' : Hp), itv = .ref it ∧ Inv X pins σ H' s2 ∧ Turn X.prog X.w X.K tg J fp it tn ∧ tn 0 s2.heap ∧ (∀ b ∈ fp, FpOk X pins H' b) ∧ R J H'
def PI (X : Cx) (tg iter : Expr) (wi : TI) : Prop :=
  ∀ (pins : List (Addr × Obj)) (s : Shared) (σ : St) (H : Hp) (R : It → Hp → Prop), Inv X pins σ H s → wi σ H R →
    wpAny (model X.prog X.w) X.A (eval iter X.env) (fun v s1 => wpAny (model X.prog X.w) X.A (pyIter v) (PIE X pins σ tg R) X.xe s1) X.xe s

/-- the step ahead of the store is nothing for an iterator that keeps no tuple -/
theorem go_of {M : Model} {A : Around} {E : Value → Shared → Prop} {s : Shared} {tg : Expr} {it : Addr} {u : Value} {o : Obj} {n : String} {vs : Array Value} {Q : Unit → Shared → Prop} (ho : s.heap.get? it = some o) (hc : o.cls = .type n) (hd : o.data = .fields vs)
    (hn : ["enumerate", "zip", "dict_itemiterator", "dict_reverseitemiterator", "odict_iterator", "itertools.zip_longest", "itertools.pairwise"].contains n = false) (hQ : Q () s) : wpAny M A (letOwnedTupleGo tg (.ref it) u) Q E s := by
  unfold letOwnedTupleGo
  cases tg <;> first
    | exact wpAny_pure hQ
    | (cases u <;> first
        | exact wpAny_pure hQ
        | (refine wpAny_bind (wpAny_load ho ?_)
           rw [hc, hd]
           show wpAny M A (if (["enumerate", "zip", "dict_itemiterator", "dict_reverseitemiterator", "odict_iterator", "itertools.zip_longest", "itertools.pairwise"].contains n && vs[0]? == some (rawInt _)) = true then _ else _) Q E s
           rw [if_neg (by intro h; rw [hn, Bool.false_and] at h; cases h)]
           exact wpAny_pure hQ))

/-- the list at a, as it stands at each turn (a loop may append to it) -/
def Itl (K : PySem.W.Frag) (a : Addr) : It :=
  ⟨fun i H => ∃ xs x, SqL K H a xs ∧ xs[i]? = some x, fun i H x H' => H' = H ∧ ∀ xs, SqL K H a xs → xs[i]? = some x, fun i H => ∃ xs, SqL K H a xs ∧ xs.length ≤ i⟩
def Itt (K : PySem.W.Frag) (a : Addr) : It :=
  ⟨fun i H => ∃ xs x, SqT K H a xs ∧ xs[i]? = some x, fun i H x H' => H' = H ∧ ∀ xs, SqT K H a xs → xs[i]? = some x, fun i H => ∃ xs, SqT K H a xs ∧ xs.length ≤ i⟩
/-- lo, lo + 1, .. (n of them) -/
def Itr (lo : Int) (n : Nat) : It := ⟨fun i _ => i < n, fun i H x H' => H' = H ∧ x = .int (lo + i), fun i _ => n ≤ i⟩
theorem turn_list {P : Program} {w : World} {K : PySem.W.Frag} {tg : Expr} (a it : Addr) : Turn P w K tg (Itl K a) [it] it (fun i h => h.IsListIter it a i) where
  mem := by simp
  obj := fun i h st b hb => by
    have e : b = it := by simpa using hb
    subst e
    obtain ⟨o, e, c, d⟩ := st
    exact ⟨o, e, fun v z => by rw [d] at z; cases z⟩
  keep := fun i h h' st k => st.at fun o e => k it (by simp) o e
  item := by
    intro X hP hw hK hc i pins s σ H E I hf st hg
    subst hP hw hK
    obtain ⟨xs, x, hq, hx⟩ := hg
    obtain ⟨its, rv, p, hz⟩ := I.list hq
    obtain ⟨u, hu, ru⟩ := rv.get hx
    obtain ⟨f0, f1, f2, f3, f4, f5⟩ := hf it (by simp)
    refine wpAny_pyNext_list_item st p.isList (x := u) (by simpa using hu) fun h' st' sb => ?_
    have I1 : Inv X pins σ H { s with heap := h' } := I.turned (t' := s.toks) (fun b o hb e => (sb.2 b hb).trans e) f0 f1 f3 f4 f5
    obtain ⟨o, e, c, d⟩ := id st'
    exact ⟨u, rfl, go_of (s := { s with heap := h' }) e c d (by decide) ⟨x, H, I1, ru, ⟨rfl, fun ys hy => by rw [I.list_inj hy hq]; exact hx⟩, st', fun b hb => (hf b hb).1⟩⟩
  done := by
    intro X hP hw hK hc i pins s σ H E I hf st hg
    subst hP hw hK
    obtain ⟨xs, hq, hx⟩ := hg
    obtain ⟨its, rv, p, hz⟩ := I.list hq
    obtain ⟨f0, f1, f2, f3, f4, f5⟩ := hf it (by simp)
    have hl := rv.length
    exact wpAny_pyNext_list_end (I.ok.hd hc) st p.isList (by simp; omega) fun h' eb => ⟨rfl, I.turned (t' := s.toks) (fun b o hb e => eb b o hb e) f0 f1 f3 f4 f5⟩
  self := fun _ _ _ _ _ st h => wpAny_pyIter_listiter st h
theorem turn_range {P : Program} {w : World} {K : PySem.W.Frag} {tg : Expr} (it : Addr) (lo : Int) (n : Nat) : Turn P w K tg (Itr lo n) [it] it (fun i h => IsRangeIter h it (lo + (i : Nat) * 1) ((n : Int) - (i : Nat)) 1) where
  mem := by simp
  obj := fun i h st b hb => by
    have e : b = it := by simpa using hb
    subst e
    exact ⟨_, st, fun v z => by
      have z' : Data.fields _ = Data.cell v := z
      cases z'⟩
  keep := fun i h h' st k => k it (by simp) _ st
  item := by
    intro X hP hw hK hc i pins s σ H E I hf st hg
    subst hP hw hK
    obtain ⟨f0, f1, f2, f3, f4, f5⟩ := hf it (by simp)
    have W := Walks.range (prog := X.prog) (w := X.w) (I.ok.hd hc) it lo 1 n
    refine W.item i s _ _ hg st fun v h' tk hv st' kk => ?_
    obtain ⟨t, rfl⟩ := hv
    have I1 : Inv X pins σ H { s with heap := h', toks := tk } := I.turned (fun b o hb e => kk b o (by simpa using hb) e) f0 f1 f3 f4 f5
    refine ⟨_, rfl, go_of (s := { s with heap := h', toks := tk }) (n := "range_iterator") st' rfl rfl (by decide) ⟨.int (lo + i), H, I1, ⟨t, ?_⟩, ⟨rfl, rfl⟩, st', fun b hb => (hf b hb).1⟩⟩
    rw [Int.mul_one]
  done := by
    intro X hP hw hK hc i pins s σ H E I hf st hg
    subst hP hw hK
    obtain ⟨f0, f1, f2, f3, f4, f5⟩ := hf it (by simp)
    exact wpAny_pyNext_range_end (I.ok.hd hc) st (by have : n ≤ i := hg; omega) fun h' eb => ⟨rfl, I.turned (t' := s.toks) (fun b o hb e => eb b o hb e) f0 f1 f3 f4 f5⟩
  self := fun _ _ _ _ _ st h => wpAny_pyIter_rangeiter st h
end L2

namespace L2
open PySem PySem.Spec PyProof.Rows
section
variable {X : Cx} {tg : Expr}
def iList (K : PySem.W.Frag) (tl : TE) : TI := fun σ H R => tl σ H fun x H1 => ∃ a, x = .ref a ∧ (∃ xs, SqL K H1 a xs) ∧ R (Itl K a) H1
def iTup (K : PySem.W.Frag) (tl : TE) : TI := fun σ H R => tl σ H fun x H1 => ∃ a, x = .ref a ∧ (∃ xs, SqT K H1 a xs) ∧ R (Itt K a) H1
theorem pi_list {l : Expr} {tl : TE} (hl : PE X l tl) : PI X tg l (iList X.K tl) := by
  intro pins s σ H R I h
  refine thn (hl pins s σ H _ I h) fun v s1 ⟨x, H1, I1, r1, q1⟩ => ?_
  obtain ⟨a, e, ⟨xs, hq⟩, q⟩ := q1
  subst e
  cases r1
  obtain ⟨its, rv, p, hz⟩ := I1.list hq
  refine wpAny_pyIter_list p.isList ?_
  refine ⟨s1.heap.objs.size, [s1.heap.objs.size], _, _, H1, rfl, I1.kept (t' := s1.toks) fun b o e => Heap.get?_push_of_some _ e, turn_list a _, ⟨_, Heap.get?_push_size _ rfl, rfl, rfl⟩, fun b hb => ?_, q⟩
  have e : b = s1.heap.objs.size := by simpa using hb
  subst e
  exact I1.fpOk (Nat.le_refl _) (I1.hok.fresh (Nat.le_refl _))
/-- a range object just made, walked -/
theorem range_it {pins : List (Addr × Obj)} {σ : St} {H : Hp} {s : Shared} {R : It → Hp → Prop} {E : Value → Shared → Prop} {lo hi : Int} {t u v : Tok} {tk : Nat} (I : Inv X pins σ H s) (h1 : -(2 ^ 62) ≤ lo) (h2 : lo < 2 ^ 62) (h3 : -(2 ^ 62) ≤ hi) (h4 : hi < 2 ^ 62)
    (q : R (Itr lo (hi - lo).toNat) H) : wpAny (model X.prog X.w) X.A (pyIter (.ref s.heap.objs.size)) (PIE X pins σ tg R) E { s with heap := s.heap.push { cls := .type "range", data := .fields #[.int lo t, .int hi u, .int 1 v] }, toks := tk } := by
  refine wpAny_pyIter_range (IsRange.new ..) (small_one h1 h2 h3 h4) ?_
  have I1 : Inv X pins σ H { s with heap := s.heap.push { cls := .type "range", data := .fields #[.int lo t, .int hi u, .int 1 v] }, toks := tk } := I.kept fun b o e => Heap.get?_push_of_some _ e
  refine ⟨(s.heap.push { cls := .type "range", data := .fields #[.int lo t, .int hi u, .int 1 v] }).objs.size, [(s.heap.push { cls := .type "range", data := .fields #[.int lo t, .int hi u, .int 1 v] }).objs.size], _, _, H, rfl,
    I1.kept (t' := tk) fun b o e => Heap.get?_push_of_some _ e, turn_range _ lo (hi - lo).toNat, ?_, fun b hb => ?_, q⟩
  · have e1 : lo + ((0 : Nat) : Int) * 1 = lo := by simp
    have e2 : (((hi - lo).toNat : Nat) : Int) - ((0 : Nat) : Int) = Builtin.Range.rangeSize lo hi 1 := by rw [rangeSize_one]; split <;> omega
    show IsRangeIter _ _ (lo + ((0 : Nat) : Int) * 1) ((((hi - lo).toNat : Nat) : Int) - ((0 : Nat) : Int)) 1
    rw [e1, e2]
    exact Heap.get?_push_size _ rfl
  · have e : b = (s.heap.push { cls := .type "range", data := .fields #[.int lo t, .int hi u, .int 1 v] }).objs.size := by simpa using hb
    subst e
    exact I1.fpOk (Nat.le_refl _) (I1.hok.fresh (Nat.le_refl _))
def iRng1 (ta : TA) : TI := fun σ H R => ta σ H fun vs H1 => ∃ j : Int, vs = [.int j] ∧ -(2 ^ 62) ≤ j ∧ j < 2 ^ 62 ∧ R (Itr 0 j.toNat) H1
def iRng2 (ta : TA) : TI := fun σ H R => ta σ H fun vs H1 => ∃ i j : Int, vs = [.int i, .int j] ∧ (-(2 ^ 62) ≤ i ∧ i < 2 ^ 62 ∧ -(2 ^ 62) ≤ j ∧ j < 2 ^ 62) ∧ R (Itr i (j - i).toNat) H1
theorem pi_range1 {a : Expr} {ta : TA} {p pos : Pos} (hg : Gl X "range") (hm : X.mg "range" = none) (ha : PA X [a] ta) (hs : starEach [a] X.env = [(false, eval a X.env)] := by rfl) : PI X tg (.Call (.Name "range" p) [a] [] pos) (iRng1 ta) := by
  intro pins s σ H R I h
  refine Call_ (ld_blt I hg hm boot_range (PyProof.Rows.callWith_type1 (thn (ha pos pins s σ H _ I h) fun us s1 ⟨vs, H1, I1, r1, q1⟩ => ?_) hs rfl))
  obtain ⟨j, e, q1, q2, q⟩ := q1
  subst e
  cases r1 with
  | cons r rr =>
    cases rr
    obtain ⟨t, rfl⟩ := r
    exact call_range_1 (range_it I1 (by omega) (by omega) q1 q2 (by simpa using q))
/-! ### for -/
/-- W: the invariant by the turn and a measure; N: what the body is to reach -/
def tFor (wi : TI) (g : TG) (tb : TS) : TS := fun D σ H => wi σ H fun J H1 => ∃ W : Nat → Nat → St → Hp → Prop, (∃ m, W 0 m σ H1) ∧ ∀ i m σ H, W i m σ H →
  (J.stop i H ∧ D.nx σ H) ∨ (J.go i H ∧ ∃ N : St → Hp → Prop, (∀ σ' H', N σ' H' → ∃ m', m' < m ∧ W (i + 1) m' σ' H') ∧ ∀ x H', J.yld i H x H' → g x σ H' fun σ2 H2 => tb { D with nx := N, ct := N, bk := D.nx } σ2 H2)
/-- the records at fp as they stand -/
def pinsAt (fp : List Addr) (h : Heap) : List (Addr × Obj) := fp.filterMap fun b => (h.get? b).map fun o => (b, o)
theorem mem_pinsAt {fp : List Addr} {h : Heap} {b : Addr} {o : Obj} (hb : b ∈ fp) (e : h.get? b = some o) : (b, o) ∈ pinsAt fp h := List.mem_filterMap.mpr ⟨b, hb, by rw [e]; rfl⟩
theorem of_pinsAt {fp : List Addr} {h : Heap} {p : Addr × Obj} (hp : p ∈ pinsAt fp h) : p.1 ∈ fp ∧ h.get? p.1 = some p.2 := by
  obtain ⟨b, hb, e⟩ := List.mem_filterMap.mp hp
  cases q : h.get? b with
  | none => rw [q] at e; cases e
  | some o =>
    rw [q] at e
    have e' : (b, o) = p := Option.some.inj e
    subst e'
    exact ⟨hb, q⟩
theorem Inv.pinned {pins : List (Addr × Obj)} {σ : St} {H : Hp} {s : Shared} {fp : List Addr} (I : Inv X pins σ H s) (hf : ∀ b ∈ fp, FpOk X pins H b) (ho : ∀ b ∈ fp, ∃ o, s.heap.get? b = some o ∧ ∀ v, o.data ≠ .cell v) : Inv X (pins ++ pinsAt fp s.heap) σ H s :=
  I.pins_of fun p hp => (List.mem_append.mp hp).elim (fun z => I.pin p (List.mem_append_right _ z)) fun z => by
    obtain ⟨hb, e⟩ := of_pinsAt z
    obtain ⟨f0, f1, f2, _⟩ := hf p.1 hb
    obtain ⟨o, e', d⟩ := ho p.1 hb
    rw [e] at e'; cases e'
    exact ⟨e, f0, f1, f2, d⟩
theorem Inv.unpinned {pins pl : List (Addr × Obj)} {σ : St} {H : Hp} {s : Shared} (I : Inv X (pins ++ pl) σ H s) : Inv X pins σ H s := I.pins_of fun p hp => I.pin p (List.mem_append_right _ (List.mem_append_left _ hp))
theorem ps_for {iter : Expr} {body : List Stmt} {wi : TI} {g : TG} {tb : TS} {pos : Pos} (hp : PassesOwn (model X.prog X.w) X.A X.env X.xe) (hc : X.calm = true) (hi : PI X tg iter wi) (hg : PG X tg g) (hb : PSs X body tb)
    (hs : ∀ x, foldedSetIterable iter X.env x = pure x := by intro _; rfl) : PS X (.For tg iter body [] pos) (tFor wi g tb) := by
  intro pins s σ H D I h
  refine wpAny_For (thn (hi pins s σ H _ I h) fun v s1 h1 => thn h1 fun itv s2 h2 => ?_) hs
  obtain ⟨it, fp, tn, J, H2, e, I2, T, st2, f2, W, ⟨m0, w0⟩, turn⟩ := h2
  subst e
  -- what stays true of the iterator's objects through the loop
  have stat : ∀ {H' : Hp}, (∀ b ∈ fp, H' b = none) → ∀ b ∈ fp, FpOk X pins H' b := fun hn b hb => ⟨hn b hb, (f2 b hb).2⟩
  refine codeAny_forLoop_any (fun n s' => ∃ i σ' H', Inv X pins σ' H' s' ∧ tn i s'.heap ∧ (∀ b ∈ fp, H' b = none) ∧ W i n σ' H') ?_ m0 ⟨0, σ, H2, I2, st2, fun b hb => (f2 b hb).1, w0⟩
  rintro n s3 ⟨i, σ3, H3, I3, st3, fr3, w3⟩
  rcases turn i n σ3 H3 w3 with ⟨stop, qn⟩ | ⟨go, N, hN, step⟩
  · refine wpAny_passesOwn hp (thn (T.done X rfl rfl rfl hc i pins s3 σ3 H3 X.xe I3 (stat fr3) st3 stop) fun r s4 ⟨hr, I4⟩ => ?_)
    subst hr
    exact wpAny_execs_nil ⟨σ3, H3, I4, qn⟩
  · refine wpAny_passesOwn hp (thn (T.item X rfl rfl rfl hc i pins s3 σ3 H3 X.xe I3 (stat fr3) st3 go) fun r s4 ⟨u, hr, h4⟩ => ?_)
    subst hr
    refine wpAny_passesOwn hp (thn h4 fun _ s5 ⟨x, H5, I5, r5, y5, st5, fr5⟩ => ?_)
    have I5' := I5.pinned (stat fr5) (T.obj _ _ st5)
    refine wpAny_passesOwn hp (thn (hg _ s5 σ3 H5 x u _ I5' r5 (step x H5 y5)) fun _ s6 ⟨σ6, H6, I6, q6⟩ => ?_)
    refine wpAny_passesOwn hp (thn (hb _ s6 σ6 H6 _ I6 q6) fun f s7 q7 => ?_)
    have again : ∀ {σ7 : St} {H7 : Hp}, Inv X (pins ++ pinsAt fp s5.heap) σ7 H7 s7 → N σ7 H7 → ∃ m, m < n ∧ ∃ i σ' H', Inv X pins σ' H' s7 ∧ tn i s7.heap ∧ (∀ b ∈ fp, H' b = none) ∧ W i m σ' H' := fun {σ7 H7} I7 n7 => by
      obtain ⟨m', hm, w7⟩ := hN σ7 H7 n7
      refine ⟨m', hm, i + 1, σ7, H7, I7.unpinned, T.keep _ _ _ st5 fun b hb o e => (I7.pin (b, o) (List.mem_append_right _ (List.mem_append_right _ (mem_pinsAt hb e)))).1, fun b hb => ?_, w7⟩
      obtain ⟨o, e, d⟩ := T.obj _ _ st5 b hb
      exact (I7.pin (b, o) (List.mem_append_right _ (List.mem_append_right _ (mem_pinsAt hb e)))).2.1
    cases f with
    | next => obtain ⟨σ7, H7, I7, n7⟩ := q7; exact again I7 n7
    | cont => obtain ⟨σ7, H7, I7, n7⟩ := q7; exact again I7 n7
    | brk => obtain ⟨σ7, H7, I7, q7⟩ := q7; exact ⟨σ7, H7, I7.unpinned, q7⟩
    | ret v => obtain ⟨x7, σ7, H7, I7, r7, q7⟩ := q7; exact ⟨x7, σ7, H7, I7.unpinned, r7, q7⟩
end

/-! ### the forms one uses -/
/-- over a list that the body leaves as it is -/
theorem for_list {K : PySem.W.Frag} {a : Addr} {xs : List V} {g : TG} {tb : TS} {D : Ends} {σ : St} {H : Hp} (Pv : Nat → St → Hp → Prop) (h0 : Pv 0 σ H) (hl : ∀ i σ H, i ≤ xs.length → Pv i σ H → SqL K H a xs)
    (hs : ∀ i x σ H, xs[i]? = some x → Pv i σ H → g x σ H fun σ2 H2 => tb { D with nx := Pv (i + 1), ct := Pv (i + 1), bk := D.nx } σ2 H2) (hd : ∀ σ H, Pv xs.length σ H → D.nx σ H) :
    ∃ W : Nat → Nat → St → Hp → Prop, (∃ m, W 0 m σ H) ∧ ∀ i m σ H, W i m σ H →
      ((Itl K a).stop i H ∧ D.nx σ H) ∨ ((Itl K a).go i H ∧ ∃ N : St → Hp → Prop, (∀ σ' H', N σ' H' → ∃ m', m' < m ∧ W (i + 1) m' σ' H') ∧ ∀ x H', (Itl K a).yld i H x H' → g x σ H' fun σ2 H2 => tb { D with nx := N, ct := N, bk := D.nx } σ2 H2) := by
  refine ⟨fun i m σ H => m = xs.length - i ∧ i ≤ xs.length ∧ Pv i σ H, ⟨xs.length, by simp, Nat.zero_le _, h0⟩, ?_⟩
  rintro i m σ H ⟨rfl, hi, p⟩
  have q := hl i σ H hi p
  by_cases hlt : i < xs.length
  · refine .inr ⟨⟨xs, xs[i], q, by simp [hlt]⟩, Pv (i + 1), fun σ' H' p' => ⟨xs.length - (i + 1), by omega, rfl, hlt, p'⟩, fun x H' y => ?_⟩
    obtain ⟨e, y⟩ := y
    subst e
    exact hs i x σ _ (y xs q) p
  · have e : i = xs.length := by omega
    subst e
    exact .inl ⟨⟨xs, q, Nat.le_refl _⟩, hd σ H p⟩
theorem for_range {lo : Int} {n : Nat} {g : TG} {tb : TS} {D : Ends} {σ : St} {H : Hp} (Pv : Nat → St → Hp → Prop) (h0 : Pv 0 σ H)
    (hs : ∀ i σ H, i < n → Pv i σ H → g (.int (lo + i)) σ H fun σ2 H2 => tb { D with nx := Pv (i + 1), ct := Pv (i + 1), bk := D.nx } σ2 H2) (hd : ∀ σ H, Pv n σ H → D.nx σ H) :
    ∃ W : Nat → Nat → St → Hp → Prop, (∃ m, W 0 m σ H) ∧ ∀ i m σ H, W i m σ H →
      ((Itr lo n).stop i H ∧ D.nx σ H) ∨ ((Itr lo n).go i H ∧ ∃ N : St → Hp → Prop, (∀ σ' H', N σ' H' → ∃ m', m' < m ∧ W (i + 1) m' σ' H') ∧ ∀ x H', (Itr lo n).yld i H x H' → g x σ H' fun σ2 H2 => tb { D with nx := N, ct := N, bk := D.nx } σ2 H2) := by
  refine ⟨fun i m σ H => m = n - i ∧ i ≤ n ∧ Pv i σ H, ⟨n, by simp, Nat.zero_le _, h0⟩, ?_⟩
  rintro i m σ H ⟨rfl, hi, p⟩
  by_cases hlt : i < n
  · refine .inr ⟨hlt, Pv (i + 1), fun σ' H' p' => ⟨n - (i + 1), by omega, rfl, hlt, p'⟩, fun x H' y => ?_⟩
    obtain ⟨e, y⟩ := y
    subst e y
    exact hs i σ _ hlt p
  · have e : i = n := by omega
    subst e
    exact .inl ⟨Nat.le_refl _, hd σ H p⟩
end L2

namespace L2
open PySem PySem.Spec PyProof.Rows

abbrev R2 := V → V → Hp → VK → Prop
/-- a two-place operation on values: f is binaryOp op, inplaceOp op or compareOp op -/
def OpR (X : Cx) (f : Value → Value → Sem Value) (r : R2) : Prop :=
  ∀ (pins : List (Addr × Obj)) (s : Shared) (σ : St) (H : Hp) (x y : V) (v u : Value) (Q : VK), Inv X pins σ H s → RelV x v → RelV y u → r x y H Q →
    wpAny (model X.prog X.w) X.A (f v u) (EP X pins σ Q) X.xe s
/-- a one-place operation -/
def UnR (X : Cx) (f : Value → Sem Value) (r : V → Hp → VK → Prop) : Prop :=
  ∀ (pins : List (Addr × Obj)) (s : Shared) (σ : St) (H : Hp) (x : V) (v : Value) (Q : VK), Inv X pins σ H s → RelV x v → r x H Q →
    wpAny (model X.prog X.w) X.A (f v) (EP X pins σ Q) X.xe s
/-- a call of a value that is known (a builtin, a type) with values -/
def CallR (X : Cx) (f : Value) (r : List V → Hp → VK → Prop) : Prop :=
  ∀ (pins : List (Addr × Obj)) (s : Shared) (σ : St) (H : Hp) (xs : List V) (us : List Value) (Q : VK), Inv X pins σ H s → Vals xs us → r xs H Q →
    wpAny (model X.prog X.w) X.A (call f us) (EP X pins σ Q) X.xe s
/-- a value's truth -/
def TruR (X : Cx) (r : V → Hp → (Bool → Hp → Prop) → Prop) : Prop :=
  ∀ (pins : List (Addr × Obj)) (s : Shared) (σ : St) (H : Hp) (x : V) (v : Value) (Q : Bool → Hp → Prop), Inv X pins σ H s → RelV x v → r x H Q →
    wpAny (model X.prog X.w) X.A (truthy v) (TP X pins σ Q) X.xe s

def tOp (r : R2) (ta tb : TE) : TE := fun σ H Q => ta σ H fun x H1 => tb σ H1 fun y H2 => r x y H2 Q
def tUn (r : V → Hp → VK → Prop) (ta : TE) : TE := fun σ H Q => ta σ H fun x H1 => r x H1 Q
/-- ints in, under C, and a value out -/
def rI (C : Int → Int → Prop) (g : Int → Int → V) : R2 := fun x y H Q => ∃ i j, x = .int i ∧ y = .int j ∧ C i j ∧ Q (g i j) H
def rI0 (g : Int → Int → V) : R2 := fun x y H Q => ∃ i j, x = .int i ∧ y = .int j ∧ Q (g i j) H
def rU (g : Int → V) : V → Hp → VK → Prop := fun x H Q => ∃ i, x = .int i ∧ Q (g i) H

section
variable {X : Cx} {a b c : Expr} {ta tb tc : TE} {pos : Pos}

theorem binT (ha : PE X a ta) (hb : PE X b tb) {pins : List (Addr × Obj)} {s : Shared} {σ : St} {H : Hp} {R : V → V → Hp → Prop} (I : Inv X pins σ H s)
    (h : ta σ H fun x H1 => tb σ H1 fun y H2 => R x y H2) {Q : Value → Shared → Prop} {f : Value → Value → Sem Value}
    (hf : ∀ v u s2 x y H2, Inv X pins σ H2 s2 → RelV x v → RelV y u → R x y H2 → wpAny (model X.prog X.w) X.A (f v u) Q X.xe s2) :
    wpAny (model X.prog X.w) X.A (eval a X.env) (fun v s₁ => wpAny (model X.prog X.w) X.A (eval b X.env) (fun u s₂ => wpAny (model X.prog X.w) X.A (f v u) Q X.xe s₂) X.xe s₁) X.xe s := by
  refine thn (ha pins s σ H _ I h) fun v s1 ⟨x, H1, I1, r1, q1⟩ => ?_
  refine thn (hb pins s1 σ H1 _ I1 q1) fun u s2 ⟨y, H2, I2, r2, q2⟩ => ?_
  exact hf v u s2 x y H2 I2 r1 r2 q2

theorem pe_op {op : Operator} {r : R2} (ho : OpR X (binaryOp op) r) (ha : PE X a ta) (hb : PE X b tb) : PE X (.BinOp a op b pos) (tOp r ta tb) := by
  intro pins s σ H Q I h
  exact wpAny_BinOp (binT ha hb I h fun v u s2 x y H2 I2 rx ry q => ho pins s2 σ H2 x y v u Q I2 rx ry q)
theorem pe_un {op : UnaryOp} {r : V → Hp → VK → Prop} (ho : UnR X (unaryOp op) r) (ha : PE X a ta) : PE X (.UnaryOp op a pos) (tUn r ta) := by
  intro pins s σ H Q I h
  exact UnaryOp_ (thn (ha pins s σ H _ I h) fun v s1 ⟨x, H1, I1, r1, q1⟩ => ho pins s1 σ H1 x v Q I1 r1 q1)
/-! ### ints -/
theorem opI {f : Value → Value → Sem Value} {C : Int → Int → Prop} {g : Int → Int → Int}
    (rule : ∀ (i j : Int) (t u : Tok) (s : Shared) (Q : Value → Shared → Prop) (E : Value → Shared → Prop), C i j → Q (.int (g i j) s.toks) { s with toks := s.toks + 1 } → wpAny (model X.prog X.w) X.A (f (.int i t) (.int j u)) Q E s) :
    OpR X f (rI C fun i j => .int (g i j)) := by
  intro pins s σ H x y v u Q I rx ry h
  obtain ⟨i, j, rfl, rfl, hc, q⟩ := h
  obtain ⟨t, rfl⟩ := rx
  obtain ⟨t', rfl⟩ := ry
  exact rule i j t t' s _ _ hc ⟨.int (g i j), H, I.tok _, ⟨_, rfl⟩, q⟩
theorem opI0 {f : Value → Value → Sem Value} {g : Int → Int → Int}
    (rule : ∀ (i j : Int) (t u : Tok) (s : Shared) (Q : Value → Shared → Prop) (E : Value → Shared → Prop), Q (.int (g i j) s.toks) { s with toks := s.toks + 1 } → wpAny (model X.prog X.w) X.A (f (.int i t) (.int j u)) Q E s) :
    OpR X f (rI0 fun i j => .int (g i j)) := by
  intro pins s σ H x y v u Q I rx ry h
  obtain ⟨i, j, rfl, rfl, q⟩ := h
  obtain ⟨t, rfl⟩ := rx
  obtain ⟨t', rfl⟩ := ry
  exact rule i j t t' s _ _ ⟨.int (g i j), H, I.tok _, ⟨_, rfl⟩, q⟩
theorem opB0 {f : Value → Value → Sem Value} {g : Int → Int → Bool}
    (rule : ∀ (i j : Int) (t u : Tok) (s : Shared) (Q : Value → Shared → Prop) (E : Value → Shared → Prop), Q (.bool (g i j)) s → wpAny (model X.prog X.w) X.A (f (.int i t) (.int j u)) Q E s) :
    OpR X f (rI0 fun i j => .bl (g i j)) := by
  intro pins s σ H x y v u Q I rx ry h
  obtain ⟨i, j, rfl, rfl, q⟩ := h
  obtain ⟨t, rfl⟩ := rx
  obtain ⟨t', rfl⟩ := ry
  exact rule i j t t' s _ _ ⟨.bl (g i j), H, I, rfl, q⟩

def CDiv (i j : Int) : Prop := 0 < j ∧ j < 1073741824
def CDivN (i j : Int) : Prop := j ≠ 0 ∧ j.natAbs < 1073741824
def CPow (i j : Int) : Prop := 0 ≤ j ∧ j ≤ 1000000 ∧ i.natAbs < 2 ^ 64
def CMul (i j : Int) : Prop := (-(2 ^ 64) < i ∧ i < 2 ^ 64) ∨ (-(2 ^ 64) < j ∧ j < 2 ^ 64)
theorem CMul.ok {i j : Int} (h : CMul i j) : IntMulOk i j := by
  rcases h with ⟨h1, h2⟩ | ⟨h1, h2⟩
  · exact .of_left (intBits_le_64 h1 h2)
  · exact .of_right (intBits_le_64 h1 h2)
theorem op_add : OpR X (binaryOp .Add) (rI0 fun i j => .int (i + j)) := opI0 fun _ _ _ _ _ _ _ q => add_int q
theorem op_sub : OpR X (binaryOp .Sub) (rI0 fun i j => .int (i - j)) := opI0 fun _ _ _ _ _ _ _ q => sub_int q
theorem op_mul : OpR X (binaryOp .Mult) (rI CMul fun i j => .int (i * j)) := opI fun _ _ _ _ _ _ _ hc q => mul_int q hc.ok
/-- % by a positive divisor of any size -/
theorem op_mod : OpR X (binaryOp .Mod) (rI (fun _ j => 0 < j) fun i j => .int (i % j)) := opI fun i j _ _ _ _ _ hc q => by
  have h1 : (0 : Int) < j := hc
  exact mod_int' (by omega) (by rw [Int.fmod_eq_emod_of_nonneg i (by omega)]; exact q)
theorem unI {f : Value → Sem Value} {g : Int → Int}
    (rule : ∀ (i : Int) (t : Tok) (s : Shared) (Q : Value → Shared → Prop) (E : Value → Shared → Prop), Q (.int (g i) s.toks) { s with toks := s.toks + 1 } → wpAny (model X.prog X.w) X.A (f (.int i t)) Q E s) :
    UnR X f (rU fun i => .int (g i)) := by
  intro pins s σ H x v Q I rx h
  obtain ⟨i, rfl, q⟩ := h
  obtain ⟨t, rfl⟩ := rx
  exact rule i t s _ _ ⟨.int (g i), H, I.tok _, ⟨_, rfl⟩, q⟩
theorem un_neg : UnR X (unaryOp .USub) (rU fun i => .int (-i)) := unI fun _ _ _ _ _ q => neg_int q
/-! ### bools among ints: n += (a < b) -/
end

/-! ### comparisons -/
/-- the scalars that == tells apart as data does -/
def scal : V → V → Bool
  | .non, .non => true | .non, .int _ => true | .int _, .non => true | .non, .bl _ => true | .bl _, .non => true | .non, .str _ => true | .str _, .non => true
  | .int _, .int _ => true | .bl _, .bl _ => true | .str _, .str _ => true | .byt _, .byt _ => true
  | .int _, .str _ => true | .str _, .int _ => true | .bl _, .str _ => true | .str _, .bl _ => true
  | _, _ => false
def rEq : R2 := fun x y H Q => scal x y = true ∧ Q (.bl (decide (x = y))) H
def rNe : R2 := fun x y H Q => scal x y = true ∧ Q (.bl (!decide (x = y))) H

theorem dec_int {i j : Int} : decide (V.int i = V.int j) = (i == j) := by
  rw [Bool.eq_iff_iff]
  simp
theorem dec_bl {i j : Bool} : decide (V.bl i = V.bl j) = (i == j) := by
  rw [Bool.eq_iff_iff]
  simp
theorem dec_str {i j : Str} : decide (V.str i = V.str j) = (i == j) := by
  rw [Bool.eq_iff_iff]
  simp
theorem dec_byt {i j : Array UInt8} : decide (V.byt i = V.byt j) = (i.toList == j.toList) := by
  rw [Bool.eq_iff_iff]
  cases i
  cases j
  simp

section
variable {X : Cx} {a b c : Expr} {ta tb tc : TE} {pos : Pos}
theorem fin_bl {pins : List (Addr × Obj)} {σ : St} {H : Hp} {s : Shared} {Q : VK} {k k' : Bool} (I : Inv X pins σ H s) (q : Q (.bl k) H) (e : k = k') : EP X pins σ Q (.bool k') s := by
  subst e
  exact ⟨.bl k, H, I, rfl, q⟩
theorem op_eq : OpR X (compareOp .Eq) rEq := by
  intro pins s σ H x y v u Q I rx ry h
  obtain ⟨hs, q⟩ := h
  cases x with
  | non =>
    cases rx
    cases y with
    | non => cases ry; exact PySem.EqNone.eq_none_none (fin_bl I q (by simp))
    | bl j => cases ry; exact PySem.EqNone.eq_none_bool (fin_bl I q (by simp))
    | int j => obtain ⟨t', rfl⟩ := ry; exact PySem.EqNone.eq_none_int (fin_bl I q (by simp))
    | str j => obtain ⟨t', rfl⟩ := ry; exact PySem.EqNone.eq_none_str (fin_bl I q (by simp))
    | _ => exact absurd (show false = true from hs) Bool.false_ne_true
  | bl i =>
    cases rx
    cases y with
    | non => cases ry; exact PySem.EqNone.eq_bool_none (fin_bl I q (by simp))
    | bl j => cases ry; exact eq_bool (fin_bl I q dec_bl)
    | str j => obtain ⟨t', rfl⟩ := ry; exact PySem.EqMixed.eq_bool_str (fin_bl I q (by simp))
    | _ => exact absurd (show false = true from hs) Bool.false_ne_true
  | int i =>
    obtain ⟨t, rfl⟩ := rx
    cases y with
    | non => cases ry; exact PySem.EqNone.eq_int_none (fin_bl I q (by simp))
    | int j => obtain ⟨t', rfl⟩ := ry; exact eq_int (fin_bl I q dec_int)
    | str j => obtain ⟨t', rfl⟩ := ry; exact PySem.EqMixed.eq_int_str (fin_bl I q (by simp))
    | _ => exact absurd (show false = true from hs) Bool.false_ne_true
  | str i =>
    obtain ⟨t, rfl⟩ := rx
    cases y with
    | non => cases ry; exact PySem.EqNone.eq_str_none (fin_bl I q (by simp))
    | bl j => cases ry; exact PySem.EqMixed.eq_str_bool (fin_bl I q (by simp))
    | int j => obtain ⟨t', rfl⟩ := ry; exact PySem.EqMixed.eq_str_int (fin_bl I q (by simp))
    | str j => obtain ⟨t', rfl⟩ := ry; exact eq_str (fin_bl I q dec_str)
    | _ => exact absurd (show false = true from hs) Bool.false_ne_true
  | byt i =>
    obtain ⟨t, rfl⟩ := rx
    cases y with
    | byt j => obtain ⟨t', rfl⟩ := ry; exact PySem.W.eq_bytes (fin_bl I q dec_byt)
    | _ => exact absurd (show false = true from hs) Bool.false_ne_true
  | _ => cases y <;> exact absurd (show false = true from hs) Bool.false_ne_true
theorem op_ne : OpR X (compareOp .NotEq) rNe := by
  intro pins s σ H x y v u Q I rx ry h
  obtain ⟨hs, q⟩ := h
  cases x with
  | non =>
    cases rx
    cases y with
    | non => cases ry; exact PySem.EqNone.ne_none_none (fin_bl I q (by simp))
    | bl j => cases ry; exact PySem.EqNone.ne_none_bool (fin_bl I q (by simp))
    | int j => obtain ⟨t', rfl⟩ := ry; exact PySem.EqNone.ne_none_int (fin_bl I q (by simp))
    | str j => obtain ⟨t', rfl⟩ := ry; exact PySem.EqNone.ne_none_str (fin_bl I q (by simp))
    | _ => exact absurd (show false = true from hs) Bool.false_ne_true
  | bl i =>
    cases rx
    cases y with
    | non => cases ry; exact PySem.EqNone.ne_bool_none (fin_bl I q (by simp))
    | bl j => cases ry; exact ne_bool (fin_bl I q (congrArg not dec_bl))
    | str j => obtain ⟨t', rfl⟩ := ry; exact PySem.EqMixed.ne_bool_str (fin_bl I q (by simp))
    | _ => exact absurd (show false = true from hs) Bool.false_ne_true
  | int i =>
    obtain ⟨t, rfl⟩ := rx
    cases y with
    | non => cases ry; exact PySem.EqNone.ne_int_none (fin_bl I q (by simp))
    | int j => obtain ⟨t', rfl⟩ := ry; exact ne_int (fin_bl I q (congrArg not dec_int))
    | str j => obtain ⟨t', rfl⟩ := ry; exact PySem.EqMixed.ne_int_str (fin_bl I q (by simp))
    | _ => exact absurd (show false = true from hs) Bool.false_ne_true
  | str i =>
    obtain ⟨t, rfl⟩ := rx
    cases y with
    | non => cases ry; exact PySem.EqNone.ne_str_none (fin_bl I q (by simp))
    | bl j => cases ry; exact PySem.EqMixed.ne_str_bool (fin_bl I q (by simp))
    | int j => obtain ⟨t', rfl⟩ := ry; exact PySem.EqMixed.ne_str_int (fin_bl I q (by simp))
    | str j => obtain ⟨t', rfl⟩ := ry; exact ne_str (fin_bl I q (congrArg not dec_str))
    | _ => exact absurd (show false = true from hs) Bool.false_ne_true
  | byt i =>
    obtain ⟨t, rfl⟩ := rx
    cases y with
    | byt j => obtain ⟨t', rfl⟩ := ry; exact PySem.W.ne_bytes (fin_bl I q (congrArg not dec_byt))
    | _ => exact absurd (show false = true from hs) Bool.false_ne_true
  | _ => cases y <;> exact absurd (show false = true from hs) Bool.false_ne_true

theorem op_lt : OpR X (compareOp .Lt) (rI0 fun i j => .bl (decide (i < j))) := opB0 fun _ _ _ _ _ _ _ q => lt_int q
theorem op_ge : OpR X (compareOp .GtE) (rI0 fun i j => .bl (decide (j ≤ i))) := opB0 fun _ _ _ _ _ _ _ q => ge_int q
/-- is, is not of two objects that are tracked lists or instances -/
def isObj : HO → Bool
  | .lst _ => true
  | .ins _ _ _ => true
  | _ => false
theorem nomark (b : Expr) {op : CmpOp} (h : op ≠ .In := by decide) (h2 : op ≠ .NotIn := by decide) : behindInMarks op b = false := by
  have e1 : (op == CmpOp.In) = false := by cases op <;> first | rfl | exact absurd rfl h
  have e2 : (op == CmpOp.NotIn) = false := by cases op <;> first | rfl | exact absurd rfl h2
  cases b <;> simp [behindInMarks, e1, e2]
/-- a comparison as a value; hm: nomark b, or (for in, not in) by with_unfolding_all rfl -/
theorem pe_cmpR {op : CmpOp} {r : R2} (ho : OpR X (compareOp op) r) (ha : PE X a ta) (hb : PE X b tb) (hm : behindInMarks op b = false) : PE X (.Compare a [op] [b] pos) (tOp r ta tb) := by
  intro pins s σ H Q I h
  exact wpAny_Compare1 (binT ha hb I h fun v u s2 x y H2 I2 rx ry q => ho pins s2 σ H2 x y v u Q I2 rx ry q) hm
/-- a reading of a value as a test -/
def tTest (t : TE) : TT := fun σ H Q => t σ H fun x H' => ∃ k, x = .bl k ∧ Q k H'
theorem pt_cmpR {op : CmpOp} {r : R2} (ho : OpR X (compareOp op) r) (ha : PE X a ta) (hb : PE X b tb) (hm : behindInMarks op b = false) : PT X (.Compare a [op] [b] pos) (tTest (tOp r ta tb)) := by
  intro pins s σ H Q I h
  refine wpAny_isTrue_Compare1 (thn (ha pins s σ H _ I h) fun v s1 ⟨x, H1, I1, r1, q1⟩ => thn (hb pins s1 σ H1 _ I1 q1) fun u s2 ⟨y, H2, I2, r2, q2⟩ =>
    thn (ho pins s2 σ H2 x y v u _ I2 r1 r2 q2) fun c s3 ⟨z, H3, I3, r3, k, e, q3⟩ => ?_) hm
  subst e
  cases r3
  exact wpAny_truthy_bool ⟨H3, I3, q3⟩
/-- a op1 b op2 c -/
def tChain (r r' : R2) (ta tb tc : TE) : TE := fun σ H Q => ta σ H fun x H1 => tb σ H1 fun y H2 => r x y H2 fun z H3 => ∃ k, z = .bl k ∧
  (if k = true then tc σ H3 fun w' H4 => r' y w' H4 Q else Q (.bl false) H3)
/-! ### truth -/
/-- a value's truth by the abstract heap -/
def TruV (K : PySem.W.Frag) (x : V) (H : Hp) (k : Bool) : Prop :=
  match x with
  | .non => k = false
  | .bl b => k = b
  | .int i => k = (i != 0)
  | .str y => y.length ≤ sizeLine ∧ k = ((y.length : Int) != 0)
  | .byt y => y.size ≤ sizeLine ∧ k = ((y.size : Int) != 0)
  | .ref p => (∃ xs, SqL K H p xs ∧ k = !xs.isEmpty) ∨ (∃ xs, SqT K H p xs ∧ k = !xs.isEmpty) ∨ ∃ kvs, H p = some (.dK kvs) ∧ k = !kvs.isEmpty
  | _ => False
theorem isEmpty_kv {κ : Type} {kvs : List (κ × V)} {vs : List (κ × Value)} (r : KV kvs vs) : (!vs.isEmpty) = !kvs.isEmpty := by
  cases r <;> rfl
theorem isEmpty_of {xs : List V} {its : List Value} (r : Vals xs its) : (!its.toArray.isEmpty) = !xs.isEmpty := by
  cases r <;> simp
theorem line63 : (sizeLine : Nat) < 2 ^ 63 := by rw [sizeLine_eq]; decide
theorem tru_ok : TruR X (fun x H Q => ∃ k, TruV X.K x H k ∧ Q k H) := by
  intro pins s σ H x v Q I rx h
  obtain ⟨k, e, q⟩ := h
  have hl := line63
  have hs : sizeLine = 16777216 := sizeLine_eq
  cases x with
  | non =>
    cases rx
    have e' : k = false := e
    subst e'
    exact truthy_none ⟨H, I, q⟩
  | bl b =>
    cases rx
    have e' : k = b := e
    subst e'
    exact wpAny_truthy_bool ⟨H, I, q⟩
  | int i =>
    obtain ⟨t, rfl⟩ := rx
    have e' : k = (i != 0) := e
    subst e'
    exact PySem.P.truthy_int ⟨H, I, q⟩
  | str y =>
    obtain ⟨t, rfl⟩ := rx
    obtain ⟨hy, e'⟩ : y.length ≤ sizeLine ∧ k = ((y.length : Int) != 0) := e
    subst e'
    exact PySem.P.truthy_str (by omega) ⟨H, I.tok _, q⟩
  | byt y =>
    obtain ⟨t, rfl⟩ := rx
    obtain ⟨hy, e'⟩ : y.size ≤ sizeLine ∧ k = ((y.size : Int) != 0) := e
    subst e'
    exact PySem.W.truthy_bytes (by omega) ⟨H, I.tok _, q⟩
  | ref p =>
    cases rx
    have e' : (∃ xs, SqL X.K H p xs ∧ k = !xs.isEmpty) ∨ (∃ xs, SqT X.K H p xs ∧ k = !xs.isEmpty) ∨ ∃ kvs, H p = some (.dK kvs) ∧ k = !kvs.isEmpty := e
    rcases e' with ⟨xs, hx, e'⟩ | ⟨xs, hx, e'⟩ | ⟨kvs, hx, e'⟩
    · subst e'
      obtain ⟨its, r, pl, hz⟩ := I.list hx
      have hlen := r.length
      exact wpAny_truthy_list pl.isList (by simp only [List.size_toArray]; omega) ⟨H, I.tok _, by rw [isEmpty_of r]; exact q⟩
    · subst e'
      obtain ⟨its, r, pl, hz⟩ := I.tuple hx
      have hlen := r.length
      exact truthy_tuple pl (by simp only [List.size_toArray]; omega) ⟨H, I.tok _, by rw [isEmpty_of r]; exact q⟩
    · subst e'
      obtain ⟨hz, hS, vs, r, m⟩ : kvs.length ≤ sizeLine ∧ (p == sysModules) = false ∧ ∃ vs, KV kvs vs ∧ s.heap.DictOf (mixKind X.prog X.w) p vs := I.hok p _ hx
      have hlen : kvs.length = vs.length := Paired.length r
      exact wpAny_truthy_dict hS m (by omega) ⟨H, I.tok _, by rw [isEmpty_kv r]; exact q⟩
  | _ => exact (show False from e).elim
/-- any expression whose test is its value's truth (a name, a call, a subscript, a field ..: he by fun _ => rfl) -/
theorem pt_truth (ha : PE X a ta) (he : ∀ whole, isTrue a X.env whole = (do let v ← whole; standAt a.pos; holding [v] (truthy v))) :
    PT X a (fun σ H Q => ta σ H fun x H' => ∃ k, TruV X.K x H' k ∧ Q k H') := by
  intro pins s σ H Q I h
  exact isTrue_plain (thn (ha pins s σ H _ I h) fun v s1 ⟨x, H1, I1, r1, q1⟩ => tru_ok pins s1 σ H1 x v Q I1 r1 q1) (he _)

/-! ### strs and bytes -/
theorem op_add_str : OpR X (binaryOp .Add) (fun x y H Q => ∃ i j, x = .str i ∧ y = .str j ∧ i.length + j.length ≤ sizeLine ∧ Q (.str (i ++ j)) H) := by
  intro pins s σ H x y v u Q I rx ry h
  obtain ⟨i, j, rfl, rfl, hz, q⟩ := h
  obtain ⟨t, rfl⟩ := rx
  obtain ⟨t', rfl⟩ := ry
  exact add_str (fun t' tk => ⟨.str (i ++ j), H, I.tok _, ⟨_, rfl⟩, q⟩) hz
def PlainIxT (b : Expr) : Prop := ∀ o i, subscripted b false o i = operate [o, i] (getItem o i)
/-! ### scalar builtins, by CallR -/
theorem vals1 {x : V} {us : List Value} (r : Vals [x] us) : ∃ u, us = [u] ∧ RelV x u := by
  cases r with
  | cons r1 r2 => cases r2; exact ⟨_, rfl, r1⟩
theorem vals2 {x y : V} {us : List Value} (r : Vals [x, y] us) : ∃ u w', us = [u, w'] ∧ RelV x u ∧ RelV y w' := by
  cases r with
  | cons r1 r2 =>
    cases r2 with
    | cons r3 r4 => cases r4; exact ⟨_, _, rfl, r1, r3⟩
theorem call_str_int : CallR X (.type "str") (fun xs H Q => ∃ i, xs = [.int i] ∧ i.natAbs.log2 < 1920 ∧ Q (.str (toString i)) H) := by
  intro pins s σ H xs us Q I r h
  obtain ⟨i, rfl, hz, q⟩ := h
  obtain ⟨u, rfl, t, rfl⟩ := vals1 r
  exact PySem.P.str_of_int hz ⟨.str _, H, I.tok _, ⟨_, rfl⟩, q⟩
/-- len of a str, a bytes, a list, a tuple -/
def LenV (K : PySem.W.Frag) (x : V) (H : Hp) (n : Nat) : Prop :=
  match x with
  | .str y => y.length ≤ sizeLine ∧ n = y.length
  | .byt y => y.size ≤ sizeLine ∧ n = y.size
  | .ref p => (∃ xs, SqL K H p xs ∧ n = xs.length) ∨ ∃ xs, SqT K H p xs ∧ n = xs.length
  | _ => False
end
end L2

namespace L2
open PySem PySem.Spec PyProof.Rows

/-! ### an instance, its attributes a map -/
structure ObjM (h : Heap) (x dx C : Addr) (mA : Str → Option Value) : Prop where
  obj : h.get? x = some (PySem.W.instObj C dx)
  ns : h.Ns1 dx mA
  ne : dx ≠ x

theorem lookIn_ns {h : Heap} {dx : Addr} {mA : Str → Option Value} (n : h.Ns1 dx mA) : ∃ od, h.get? dx = some od ∧ ∀ name, PySem.W.lookIn name od = some (mA name) := by
  obtain ⟨o, es, ep, ho, hd, hk, _, hm⟩ := n
  refine ⟨o, ho, fun name => ?_⟩
  have e := hm name
  unfold nsFind findBy at e
  rw [← Array.find?_toList] at e
  unfold PySem.W.lookIn
  rw [hd]
  dsimp only
  split
  · rename_i y q
    rw [q] at e
    exact congrArg some e
  · rename_i q
    rw [q] at e
    have a : es.toList.any (·.refKey) = false := by
      rw [List.any_eq_false]
      intro y hy
      obtain ⟨z, t, hkey⟩ := hk y (Array.mem_toList_iff.mp hy)
      simp [DictEntry.refKey, hkey]
    have a' : ¬ es.toList.any (·.refKey) = true := by rw [a]; exact Bool.false_ne_true
    rw [if_neg a']
    exact congrArg some e

theorem ObjM.look {h : Heap} {x dx C : Addr} {mA : Str → Option Value} (I : ObjM h x dx C mA) : ∃ od, PySem.W.InstAt h x (PySem.W.instObj C dx) C (some od) ∧ ∀ name, PySem.W.lookIn name od = some (mA name) :=
  let ⟨od, ho, hl⟩ := lookIn_ns I.ns
  ⟨od, ⟨I.obj, rfl, rfl, ho⟩, hl⟩

section
variable {prog : Program} {w : World} {A : Around} {E : Value → Shared → Prop} {s : Shared} {K : PySem.W.Frag} {x dx C f : Addr} {mA : Str → Option Value} {name : Str} {v : Value}

end

/-! ### the attributes as a list of pairs -/
def putF (f : Str) (v : V) : List (Str × V) → List (Str × V)
  | [] => [(f, v)]
  | (g, x) :: r => if g = f then (g, v) :: r else (g, x) :: putF f v r
section
variable {P : Program} {w : World} {H H' : Hp} {h h' : Heap} {a C dx : Addr} {fs fs' : List (Str × V)}
theorem ins_get (hok : HOk P w H h) (e : H a = some (.ins C dx fs)) : ∃ mA, ObjM h a dx C mA ∧ (∀ f, RelO (fs.lookup f) (mA f)) ∧ PySem.Within mA (fs.map (·.1)) ∧ fs.length ≤ 1000 ∧ H dx = some (.own a) := by
  obtain ⟨d, z, ne, ob, mA, n, r, q⟩ := (show ObjOk P w H h a (.ins C dx fs) from hok a _ e)
  exact ⟨mA, ⟨ob, n, ne⟩, r, q, z, d⟩
end

/-! ### what of the text a class must have -/
structure Cls (K : PySem.W.Frag) (C : Addr) : Prop where
  pg : PySem.W.plainGet K C Str.empty = true
  hd : PySem.W.hasDictIn K C = true
  po : PySem.W.plainOver K C = true
  sa : PySem.W.findIn K (.ref C) "__setattr__" = some (some (.builtin "object.__setattr__"))
theorem Cls.get {K : PySem.W.Frag} {C : Addr} (c : Cls K C) (f : Str) : PySem.W.plainGet K C f = true := c.pg
/-- no class of it has the name -/
def NoAttr (K : PySem.W.Frag) (C : Addr) (f : Str) : Prop := PySem.W.findIn K (.ref C) f = some none
/-- a constant of the class -/
structure Con (K : PySem.W.Frag) (C : Addr) (f : Str) (v : V) (u : Value) : Prop where
  at_ : PySem.W.findIn K (.ref C) f = some (some u)
  rel : RelV v u
  get : PySem.W.specialIn K u "__get__" = some none
  cp : PySem.W.copiedNames.contains f = false
/-- a method: a plain def of the class or of one above it -/
structure Meth (K : PySem.W.Frag) (C : Addr) (m : Str) (f : Addr) : Prop where
  at_ : PySem.W.findIn K (.ref C) m = some (some (.ref f))
  fn : PySem.W.isFn K (.ref f) = true
  kp : PySem.W.keepIn K (.ref f) = true

section
variable {X : Cx} {pins : List (Addr × Obj)} {σ : St} {H : Hp} {s : Shared} {a C dx : Addr} {fs : List (Str × V)} {f : Str} {v : V} {A : Around} {E : Value → Shared → Prop}

end

/-! ### readings and rules -/
/-- e.f, an attribute of the instance -/
def tFld (K : PySem.W.Frag) (ta : TE) (f : Str) : TE := fun σ H Q => ta σ H fun x H1 => ∃ a C dx fs v, x = .ref a ∧ H1 a = some (.ins C dx fs) ∧ Cls K C ∧ NoAttr K C f ∧ fs.lookup f = some v ∧ Q v H1
/-- e.f, a constant of the class -/
def tCon (K : PySem.W.Frag) (ta : TE) (f : Str) : TE := fun σ H Q => ta σ H fun x H1 => ∃ a C dx fs v u, x = .ref a ∧ H1 a = some (.ins C dx fs) ∧ Cls K C ∧ Con K C f v u ∧ fs.lookup f = none ∧ Q v H1
/-- e.f = value -/
def sFld (K : PySem.W.Frag) (ta tv : TE) (f : Str) : TS := fun D σ H => tv σ H fun y H1 => ta σ H1 fun x H2 => ∃ a C dx fs, x = .ref a ∧ H2 a = some (.ins C dx fs) ∧ Cls K C ∧ NoAttr K C f ∧ fs.length < 1000 ∧
  D.nx σ (upd H2 a (.ins C dx (putF f y fs)))
/-- an augmented operator on two values -/
def InOp (X : Cx) (op : Operator) (rd : V → V → Hp → VK → Prop) : Prop :=
  ∀ (pins : List (Addr × Obj)) (s : Shared) (σ : St) (H : Hp) (x y : V) (u v : Value) (Q : VK), Inv X pins σ H s → RelV x u → RelV y v → rd x y H Q → wpAny (model X.prog X.w) X.A (inplaceOp op u v) (EP X pins σ Q) X.xe s
/-- e.f op= value -/
def sFldAug (K : PySem.W.Frag) (ta tv : TE) (rd : V → V → Hp → VK → Prop) (f : Str) : TS := fun D σ H => ta σ H fun x H1 => ∃ a C dx fs v, x = .ref a ∧ H1 a = some (.ins C dx fs) ∧ Cls K C ∧ NoAttr K C f ∧ fs.lookup f = some v ∧
  tv σ H1 fun y H2 => rd v y H2 fun z H3 => ∃ dx' fs', H3 a = some (.ins C dx' fs') ∧ fs'.length < 1000 ∧ D.nx σ (upd H3 a (.ins C dx' (putF f z fs')))

section
variable {X : Cx} {o e value : Expr} {f : Str} {pos pos' tpos : Pos} {ta tv : TE}
def rAdd : V → V → Hp → VK → Prop := fun x y H Q => ∃ i j, x = .int i ∧ y = .int j ∧ Q (.int (i + j)) H
def rSub : V → V → Hp → VK → Prop := fun x y H Q => ∃ i j, x = .int i ∧ y = .int j ∧ Q (.int (i - j)) H
end

/-! ### isinstance -/
section
variable {X : Cx} {pins : List (Addr × Obj)} {σ : St} {H : Hp} {s : Shared} {A : Around} {E : Value → Shared → Prop} {Q : Value → Shared → Prop} {c : Value} {b : Bool}
/-- the type of a value, as the fragment's deciders take it; for an instance its class -/
inductive TyOf (K : PySem.W.Frag) (H : Hp) : V → Value → Prop where
  | non : TyOf K H .non (.type "NoneType")
  | bl (x : Bool) : TyOf K H (.bl x) (.type "bool")
  | int (i : Int) : TyOf K H (.int i) (.type "int")
  | str (x : Str) : TyOf K H (.str x) (.type "str")
  | flt (x : UInt64) : TyOf K H (.flt x) (.type "float")
  | lst {a : Addr} {xs : List V} (e : H a = some (.lst xs)) : TyOf K H (.ref a) (.type "list")
  | frz {a : Addr} {o : Obj} {xs : List V} (e : H a = some (.frz o (.lst xs))) : TyOf K H (.ref a) (.type "list")
  | tup {a : Addr} {xs : List V} (e : H a = some (.tup xs)) : TyOf K H (.ref a) (.type "tuple")
  | dK {a : Addr} {kvs : List (Key × V)} (e : H a = some (.dK kvs)) : TyOf K H (.ref a) (.type "dict")
  | dT {a : Addr} {kvs : List (List Key × V)} (e : H a = some (.dT kvs)) : TyOf K H (.ref a) (.type "dict")
  | ins {a C dx : Addr} {fs : List (Str × V)} (e : H a = some (.ins C dx fs)) (cl : Cls K C) (ha : PySem.W.findIn K (.ref C) "__class__" = some (some (.builtin "object.__class__")))
      (hn : PySem.W.specialIn K (.builtin "object.__class__") "__get__" = some (some (.builtin "getset_descriptor.__get__"))) (htk : PySem.W.takesIn K (.builtin "object.__class__") = some true)
      (hm : PySem.W.mroIn K C (.type "object") = some true) : TyOf K H (.ref a) (.ref C)
/-- isinstance(x, c) for one class c, a built-in or an own one: kitOne's answer -/
theorem isinst_ok {x : V} {u t : Value} (I : Inv X pins σ H s) (rx : RelV x u) (ty : TyOf X.K H x t) (e : PySem.W.kitOne X.K t c = some b) (h : ∀ tk, Q (.bool b) { s with toks := tk }) :
    wpAny (model X.prog X.w) A (call (.builtin "isinstance") [u, c]) Q E s := by
  cases ty with
  | non => cases (show u = Value.none from rx); exact PySem.W.kia_one PySem.W.kitx_none I.kIn True.intro e (fun z => nomatch z) h
  | bl y => cases (show u = Value.bool y from rx); exact PySem.W.kia_one PySem.W.kitx_bool I.kIn True.intro e (fun z => nomatch z) h
  | int i => obtain ⟨t, q⟩ := (show ∃ t, u = Value.int i t from rx); cases q; exact PySem.W.kia_one PySem.W.kitx_int I.kIn True.intro e (fun z => nomatch z) h
  | str y => obtain ⟨t, q⟩ := (show ∃ t, u = Value.str y t from rx); cases q; exact PySem.W.kia_one PySem.W.kitx_str I.kIn True.intro e (fun z => nomatch z) h
  | flt y => obtain ⟨t, q⟩ := (show ∃ t, u = Value.float y t from rx); cases q; exact PySem.W.kia_one PySem.W.kitx_float I.kIn True.intro e (fun z => nomatch z) h
  | @lst a xs ea =>
    cases (show u = Value.ref a from rx)
    obtain ⟨_, _, n, _, h1⟩ := (show ObjOk X.prog X.w H s.heap a (.lst xs) from I.hok a _ ea)
    exact PySem.W.kia_one PySem.W.kitx_list I.kIn ⟨_, h1, rfl⟩ e (fun z => nomatch z) h
  | @frz a ob xs ea =>
    cases (show u = Value.ref a from rx)
    obtain ⟨_, _, _, n, _, h1⟩ := (show ObjOk X.prog X.w H s.heap a (.frz ob (.lst xs)) from I.hok a _ ea)
    exact PySem.W.kia_one PySem.W.kitx_list I.kIn ⟨_, h1, rfl⟩ e (fun z => nomatch z) h
  | @tup a xs ea =>
    cases (show u = Value.ref a from rx)
    obtain ⟨_, _, _, p⟩ := (show ObjOk X.prog X.w H s.heap a (.tup xs) from I.hok a _ ea)
    obtain ⟨o, h1, h2, _⟩ := p
    exact PySem.W.kia_one PySem.W.kitx_tuple I.kIn ⟨o, h1, h2⟩ e (fun z => nomatch z) h
  | @dK a kvs ea =>
    cases (show u = Value.ref a from rx)
    obtain ⟨_, _, vs, _, p⟩ := (show ObjOk X.prog X.w H s.heap a (.dK kvs) from I.hok a _ ea)
    obtain ⟨o, es, ep, h1, h2, _⟩ := p
    exact PySem.W.kia_one PySem.W.kitx_dict I.kIn ⟨o, h1, h2.1⟩ e (fun z => nomatch z) h
  | @dT a kvs ea =>
    cases (show u = Value.ref a from rx)
    obtain ⟨_, _, xs, _, o, es, ep, h1, h2, _⟩ := (show ObjOk X.prog X.w H s.heap a (.dT kvs) from I.hok a _ ea)
    exact PySem.W.kia_one PySem.W.kitx_dict I.kIn ⟨o, h1, h2.1⟩ e (fun z => nomatch z) h
  | @ins a C dx fs ea cl ha hn htk hm =>
    cases (show u = Value.ref a from rx)
    obtain ⟨mA, O, _⟩ := ins_get I.hok ea
    obtain ⟨od, J, _⟩ := O.look
    exact PySem.W.kia_one (PySem.W.kitx_own (cl.get _) cl.hd ha hn htk hm) I.kIn J e (fun z => nomatch z) h
end
end L2

namespace L2
open PySem PySem.Spec PyProof.Rows

/-! ### room -/
structure Room (k : Nat) (A : Around) : Prop where
  hd : A.handled = none
  dp : A.depth + 3 * k + 5 < recursionLimit
  un : A.units + 16 * k + 200 < cLine
theorem Room.mono {j k : Nat} {A : Around} (r : Room k A) (h : j ≤ k) : Room j A := ⟨r.hd, by have := r.dp; omega, by have := r.un; omega⟩
theorem Room.deeper {k : Nat} {A : Around} (r : Room (k + 1) A) (env : Env) : Room k (A.deeper env) :=
  ⟨r.hd, by have := r.dp; show A.depth + 1 + 3 * k + 5 < _; omega, by have := r.un; show A.units + 3 + 16 * k + 200 < _; omega⟩
theorem Room.in1 {k : Nat} {A : Around} (r : Room (k + 1) A) : Room k A.in1 :=
  ⟨r.hd, by have := r.dp; show A.depth + 3 * k + 5 < _; omega, by have := r.un; show A.units + 1 + 16 * k + 200 < _; omega⟩
theorem Room.depth {k : Nat} {A : Around} (r : Room k A) : A.depth < recursionLimit := by have := r.dp; omega
theorem Room.units {k : Nat} {A : Around} (r : Room k A) : A.units + 64 < cLine := by have := r.un; omega
/-! ### argument lists and displays -/
def tNil : TA := fun _ H Q => Q [] H
def tCons (ta : TE) (tr : TA) : TA := fun σ H Q => ta σ H fun x H1 => tr σ H1 fun xs H2 => Q (x :: xs) H2
section
variable {X : Cx} {e : Expr} {es : List Expr} {te : TE} {t : TA} {pos : Pos}
theorem pa_nil : PA X [] tNil := fun _ _ _ _ H Q I h => Calls.spliced_nil ⟨[], H, I, .nil, h⟩
theorem pa_cons (ha : PE X e te) (hr : PA X es t) (hs : starEach (e :: es) X.env = (false, eval e X.env) :: starEach es X.env := by rfl) : PA X (e :: es) (tCons te t) := by
  intro pos pins s σ H Q I h
  rw [hs]
  show wpAny _ _ (spliced ((false, eval e X.env) :: backTo pos (starEach es X.env))) _ _ s
  refine Calls.spliced_cons (thn (ha pins s σ H _ I h) fun u s1 ⟨x, H1, I1, r1, q1⟩ => ?_)
  exact thn (hr pos pins s1 σ H1 _ I1 q1) fun us s2 ⟨xs, H2, I2, r2, q2⟩ => ⟨x :: xs, H2, I2, .cons r1 r2, q2⟩

/-- a tuple, a list of written items -/
def tTup (t : TA) : TE := fun σ H Q => t σ H fun xs H1 => xs.length ≤ sizeLine ∧ ∀ p, H1 p = none → Q (.ref p) (upd H1 p (.tup xs))
def tLst (t : TA) : TE := fun σ H Q => t σ H fun xs H1 => xs.length ≤ sizeLine ∧ ∀ p, H1 p = none → Q (.ref p) (upd H1 p (.lst xs))
theorem pe_tup {x1} (h : PA X es t) : PE X (.Tuple es x1 pos) (tTup t) := by
  intro pins s σ H Q I hq
  refine wpAny_Tuple_spliced (thn (h pos pins s σ H _ I hq) fun us s1 ⟨xs, H1, I1, r, z, q⟩ => ⟨by rw [← r.length]; exact z, ?_⟩)
  have hf : H1 s1.heap.objs.size = none := I1.hok.fresh (Nat.le_refl _)
  refine ⟨.ref s1.heap.objs.size, upd H1 s1.heap.objs.size (.tup xs), I1.laid (t' := s1.toks) (fun b u e => Heap.get?_push_of_some _ e) (Nat.le_refl _) ?_, rfl, q _ hf⟩
  exact ⟨z, us, r, ⟨_, Heap.get?_push_size _ rfl, rfl, _, rfl⟩⟩
theorem pe_lst (h : PA X es t) : PE X (.List es pos) (tLst t) := by
  intro pins s σ H Q I hq
  refine wpAny_List_spliced (thn (h pos pins s σ H _ I hq) fun us s1 ⟨xs, H1, I1, r, z, q⟩ => ⟨by rw [← r.length]; exact z, ?_⟩)
  have hf : H1 s1.heap.objs.size = none := I1.hok.fresh (Nat.le_refl _)
  refine ⟨.ref s1.heap.objs.size, upd H1 s1.heap.objs.size (.lst xs), I1.laid (t' := s1.toks) (fun b u e => Heap.get?_push_of_some _ e) (Nat.le_refl _) ?_, rfl, q _ hf⟩
  exact ⟨z, us, 0, r, Heap.get?_push_size _ rfl⟩
end

/-! ### what a def promises -/
/-- a def's promise: the bound arguments in the parameters' order, the heap, the wanted end, the wanted exception -/
abbrev Sp := List V → Hp → VK → XK → Prop
/-- how an exception lies behind a call (file 08 gives it): the callers' frames, abstract heap and state ahead of the call, the wish, the exception, the state -/
abbrev CXT := List Env → Hp → Shared → XK → Value → Shared → Prop

/-- the state at a call -/
structure Env0 (P : Program) (w : World) (K : PySem.W.Frag) (mg : Str → Option Value) (base : Heap) (A : Around) (outer : List Env) (s : Shared) (H : Hp) : Prop where
  frames : A.frames = some outer
  mod : Mod K mg base
  bs : ∀ b o, base.get? b = some o → s.heap.get? b = some o ∧ H b = none
  bsz : base.objs.size ≤ s.heap.objs.size
  funs : s.heap.FunFrames base outer
  frf : ∀ b ∈ frs outer, H b = none
  hok : HOk P w H s.heap
  bare : AllBare s.gens
/-- a call's end -/
def CE (outer : List Env) (P : Program) (w : World) (H : Hp) (s : Shared) (Q : VK) (u : Value) (s' : Shared) : Prop :=
  ∃ v H', s'.os = s.os ∧ AllBare s'.gens ∧ Un (frs outer) [] H H' s.heap s'.heap ∧ HOk P w H' s'.heap ∧ RelV v u ∧ Q v H'
def CR (CX : CXT) (outer : List Env) (P : Program) (w : World) (H : Hp) (s : Shared) (Q : VK) (E : XK) (r : Result) (s' : Shared) : Prop :=
  match r with
  | .ok (.ret u) => CE outer P w H s Q u s'
  | .ok _ => False
  | .error e => CX outer H s E e s'
structure FnOk (P : Program) (w : World) (K : PySem.W.Frag) (mg : Str → Option Value) (base : Heap) (CX : CXT) (k : Nat) (f : Addr) (fd : FuncData) (ps : List Str) (sp : Sp) : Prop where
  len : ∀ vs H Q E, sp vs H Q E → vs.length = ps.length
  run : ∀ (A : Around) (outer : List Env) (s : Shared) (H : Hp) (args : Args) (us : List Value) (vs : List V) (Q : VK) (E : XK), Room k A → Env0 P w K mg base A outer s H → BindsTo s fd args (ps.zip us) → Vals vs us → sp vs H Q E →
    codeAny (model P w) A (.call (.ref f) args) (CR CX outer P w H s Q E) s
theorem FnOk.mono {P : Program} {w : World} {K : PySem.W.Frag} {mg : Str → Option Value} {base : Heap} {CX : CXT} {j k : Nat} {f : Addr} {fd : FuncData} {ps : List Str} {sp : Sp} (F : FnOk P w K mg base CX j f fd ps sp) (h : j ≤ k) :
    FnOk P w K mg base CX k f fd ps sp := ⟨F.len, fun A outer s H args us vs Q E hr => F.run A outer s H args us vs Q E (hr.mono h)⟩
theorem Env0.in1 {P : Program} {w : World} {K : PySem.W.Frag} {mg : Str → Option Value} {base : Heap} {A : Around} {outer : List Env} {s : Shared} {H : Hp} (e : Env0 P w K mg base A outer s H) :
    Env0 P w K mg base A.in1 outer s H := ⟨e.frames, e.mod, e.bs, e.bsz, e.funs, e.frf, e.hok, e.bare⟩

section
variable {X : Cx} {pins : List (Addr × Obj)} {σ : St} {H : Hp} {s s' : Shared}
/-- from a body: what a callee wants -/
theorem Inv.env0 (I : Inv X pins σ H s) : Env0 X.prog X.w X.K X.mg X.base X.A X.stack s H :=
  ⟨I.ok.frames, I.ok.mod, I.bs, Nat.le_trans I.ok.bsz I.sz, I.stack, I.stkFree, I.hok, I.bare⟩
/-- behind a call -/
theorem Inv.after {Q : VK} {u : Value} (I : Inv X pins σ H s) (h : CE X.stack X.prog X.w H s Q u s') : EP X pins σ Q u s' := by
  obtain ⟨v, H', os, bare, un, hok, r, q⟩ := h
  obtain ⟨hh, g, d, t, os'⟩ := s'
  obtain rfl : os' = s.os := os
  exact ⟨v, H', I.call (h' := hh) (g' := g) (d' := d) (t' := t) (ch := []) un hok bare (fun b z => absurd z (by simp)), r, q⟩
end

/-! ### calls -/
/-- f(..): the written arguments, then the defaults dvs; E: what is wanted of an exception -/
def tCall (sp : Sp) (dvs : List V) (E : XK) (t : TA) : TE := fun σ H Q => t σ H fun vs H1 => sp (vs ++ dvs) H1 Q E
/-- o.m(..) of an instance of the class at C -/
def tMeth (C : Addr) (m : Str) (sp : Sp) (dvs : List V) (E : XK) (ta : TE) (t : TA) : TE := fun σ H Q => ta σ H fun x H1 => ∃ a dx fs, x = .ref a ∧ H1 a = some (.ins C dx fs) ∧ fs.lookup m = none ∧
  t σ H1 fun vs H2 => sp (x :: (vs ++ dvs)) H2 Q E
/-- C(..): a new instance and its dict, then __init__ -/
def tMake (C : Addr) (sp : Sp) (dvs : List V) (E : XK) (t : TA) : TE := fun σ H Q => t σ H fun vs H1 => ∀ x dx, H1 x = none → H1 dx = none → dx ≠ x →
  sp (.ref x :: (vs ++ dvs)) (upd (upd H1 dx (.own x)) x (.ins C dx [])) (fun v H2 => v = .non ∧ Q (.ref x) H2) E

/-- how the parameters are bound: us the positional arguments, kw the keywords' values by name, ds the defaults that fill up -/
def Binds (K : PySem.W.Frag) (fd : FuncData) (ps : List Str) (ds : List Value) : Prop :=
  ∀ (s : Shared) (us : List Value), K.In s.heap → (us ++ ds).length = ps.length → BindsTo s fd ⟨us, []⟩ (ps.zip (us ++ ds))
/-- every parameter is given -/
theorem Binds.all {K : PySem.W.Frag} {fd : FuncData} {ps : List Str} (h : ∀ us : List Value, us.length = ps.length → bindArgs fd ⟨us, []⟩ = pure (ps.zip us)) : Binds K fd ps [] := fun s us _ hl => by
  rw [List.append_nil] at hl ⊢
  exact .of_eq (h us hl)

/-- an exception of a callee reaches what this body wants of exceptions -/
def Passes (CX : CXT) (X : Cx) (E : XK) : Prop := ∀ (pins : List (Addr × Obj)) (σ : St) (H : Hp) (s : Shared) (e : Value) (s' : Shared), Inv X pins σ H s → CX X.stack H s E e s' → X.xe e s'

section
variable {X : Cx} {CX : CXT} {k : Nat} {f C : Addr} {fd : FuncData} {ps : List Str} {sp : Sp} {dvs : List V} {ds : List Value} {E : XK} {x m : Str} {p pos apos : Pos} {e o : Expr} {es : List Expr} {ta : TE} {t : TA}

/-- the callee runs -/
theorem run_fn {pins : List (Addr × Obj)} {σ : St} {H : Hp} {s : Shared} {Q : VK} {us : List Value} {vs : List V} (F : FnOk X.prog X.w X.K X.mg X.base CX k f fd ps sp) (hr : Room k X.A) (hb : Binds X.K fd ps ds) (hd : Vals dvs ds) (hx : Passes CX X E)
    (I : Inv X pins σ H s) (r : Vals vs us) (h : sp (vs ++ dvs) H Q E) : wpAny (model X.prog X.w) X.A (call (.ref f) us) (EP X pins σ Q) X.xe s := by
  have r2 : Vals (vs ++ dvs) (us ++ ds) := r.append hd
  have hl : (us ++ ds).length = ps.length := by rw [← r2.length]; exact F.len _ _ _ _ h
  refine wpAny_call (codeAny_mono (F.run X.A X.stack s H ⟨us, []⟩ (us ++ ds) (vs ++ dvs) Q E hr I.env0 (hb s us I.kIn hl) r2 h) fun r s' hq => ?_)
  cases r with
  | error e => exact hx pins σ H s e s' I hq
  | ok fl =>
    cases fl with
    | ret u => exact I.after hq
    | next => exact False.elim hq
    | brk => exact False.elim hq
    | cont => exact False.elim hq

theorem pe_call (F : FnOk X.prog X.w X.K X.mg X.base CX k f fd ps sp) (hr : Room k X.A) (hg : Gl X x) (hm : X.mg x = some (.ref f)) (hk : PySem.W.keepIn X.K (.ref f) = true) (hb : Binds X.K fd ps ds) (hd : Vals dvs ds) (hx : Passes CX X E)
    (ha : PA X (e :: es) t) (hdb : (x == ("__debug__" : Str)) = false := by decide) (he : starEach (e :: es) X.env = (false, eval e X.env) :: starEach es X.env := by rfl) (hpl : (backTo pos (starEach es X.env)).any (·.1) = false := by rfl) :
    PE X (.Call (.Name x p) (e :: es) [] pos) (tCall sp dvs E t) := by
  intro pins s σ H Q I h
  refine wpAny_Call_Name_kw (ld_glob I hg hm ?_ hdb)
  refine PySem.W.callWith_K (h₀ := X.base) I.ok.mod.kin hk (thn (ha pos pins s σ H _ I h) fun us s1 ⟨vs, H1, I1, r, q⟩ => ⟨I1.kIn, ?_⟩) he hpl
  exact run_fn F hr hb hd hx I1 r q
/-- what a class must have to be made -/
structure Mk (K : PySem.W.Frag) (C f : Addr) : Prop where
  makes : PySem.W.makesIn K C = true
  init : PySem.W.findIn K (.ref C) "__init__" = some (some (.ref f))
  fn : PySem.W.isFn K (.ref f) = true
  kp : PySem.W.keepIn K (.ref C) = true

end

/-! ### keywords -/
/-- the values of the keywords, from the left -/
def PK (X : Cx) (kws : List Keyword) (t : TA) : Prop :=
  ∀ (pos : Pos) (pins : List (Addr × Obj)) (s : Shared) (σ : St) (H : Hp) (Q : List V → Hp → Prop), Inv X pins σ H s → t σ H Q → wpAny (model X.prog X.w) X.A (evalAll ((backToKw pos (keywordEach kws X.env)).map (·.2))) (AP X pins σ Q) X.xe s
section
variable {X : Cx} {CX : CXT} {k : Nat} {f C : Addr} {fd : FuncData} {ps ks : List Str} {sp : Sp} {E : XK} {x m : Str} {p pos apos kpos : Pos} {e o : Expr} {es : List Expr} {kws : List Keyword} {te ta : TE} {t tk : TA} {nm : Option Str}
/-- how a call with keywords binds: g puts the positional values us and the keywords' values ws (names ks) in the parameters' order, defaults among them -/
structure KBinds (K : PySem.W.Frag) (fd : FuncData) (ps ks : List Str) (g : List Value → List Value → List Value) (gV : List V → List V → List V) : Prop where
  to : ∀ (s : Shared) (us ws : List Value), K.In s.heap → (g us ws).length = ps.length → BindsTo s fd ⟨us, ks.zip ws⟩ (ps.zip (g us ws))
  rel : ∀ {vs : List V} {us : List Value} {zs : List V} {ws : List Value}, Vals vs us → Vals zs ws → Vals (gV vs zs) (g us ws)
def tCallK (sp : Sp) (gV : List V → List V → List V) (E : XK) (t tk : TA) : TE := fun σ H Q => t σ H fun vs H1 => tk σ H1 fun zs H2 => sp (gV vs zs) H2 Q E
variable {g : List Value → List Value → List Value} {gV : List V → List V → List V}
end

/-! ### a def's body keeps its promise -/
/-- names: the parameters first -/
structure FnScope (N P : List Str) (sc : Scope) : Prop where
  kind : sc.kind = .function
  co : sc.isCoroutine = false
  gen : sc.isGenerator = false
  nd : N.Nodup
  pre : N.take P.length = P
  par : ∀ x ∈ P, sc.names.lookup x = some .local ∨ sc.names.lookup x = some .cell
  nofree : ∀ y ∈ sc.names, y.2 ≠ .free

theorem bindL_out {kindOf : Str → Option NameKind} {x : Str} : ∀ {binds : List (Str × Value)} {m : Str → Option Value}, (∀ v, (x, v) ∉ binds) → bindL kindOf binds m x = m x
  | [], _, _ => rfl
  | (n, v) :: r, m, h => by
    unfold bindL
    rw [bindL_out fun w hw => h w (List.mem_cons_of_mem _ hw)]
    split
    · have : x ≠ n := by rintro rfl; exact h v List.mem_cons_self
      simp [this]
    · rfl
theorem bindC_out {kindOf : Str → Option NameKind} {x : Str} : ∀ {binds : List (Str × Value)} {m : Str → Option Value}, (∀ v, (x, v) ∉ binds) → bindC kindOf binds m x = m x
  | [], _, _ => rfl
  | (n, v) :: r, m, h => by
    unfold bindC
    rw [bindC_out fun w hw => h w (List.mem_cons_of_mem _ hw)]
    split
    · rfl
    · have : x ≠ n := by rintro rfl; exact h v List.mem_cons_self
      simp [this]
theorem bindL_get {kindOf : Str → Option NameKind} {x : Str} {v : Value} : ∀ {P : List Str} {vs : List Value} {i : Nat} {m : Str → Option Value}, P.Nodup → P[i]? = some x → vs[i]? = some v → kindOf x = some .local →
    bindL kindOf (P.zip vs) m x = some v
  | [], _, _, _, _, h, _, _ => by simp at h
  | _ :: _, [], _, _, _, _, h, _ => by simp at h
  | p :: P, w :: vs, 0, m, nd, h1, h2, hk => by
    simp at h1 h2; subst h1; subst h2
    show bindL kindOf ((p, w) :: P.zip vs) m p = _
    unfold bindL
    rw [bindL_out fun v hv => (List.nodup_cons.mp nd).1 (List.of_mem_zip hv).1, if_pos hk]
    simp
  | p :: P, w :: vs, i + 1, m, nd, h1, h2, hk => by
    show bindL kindOf ((p, w) :: P.zip vs) m x = _
    unfold bindL
    exact bindL_get (i := i) (List.nodup_cons.mp nd).2 (by simpa using h1) (by simpa using h2) hk
theorem bindC_get {kindOf : Str → Option NameKind} {x : Str} {v : Value} : ∀ {P : List Str} {vs : List Value} {i : Nat} {m : Str → Option Value}, P.Nodup → P[i]? = some x → vs[i]? = some v → kindOf x ≠ some .local →
    bindC kindOf (P.zip vs) m x = some v
  | [], _, _, _, _, h, _, _ => by simp at h
  | _ :: _, [], _, _, _, _, h, _ => by simp at h
  | p :: P, w :: vs, 0, m, nd, h1, h2, hk => by
    simp at h1 h2; subst h1; subst h2
    show bindC kindOf ((p, w) :: P.zip vs) m p = _
    unfold bindC
    rw [bindC_out fun v hv => (List.nodup_cons.mp nd).1 (List.of_mem_zip hv).1, if_neg hk]
    simp
  | p :: P, w :: vs, i + 1, m, nd, h1, h2, hk => by
    show bindC kindOf ((p, w) :: P.zip vs) m x = _
    unfold bindC
    exact bindC_get (i := i) (List.nodup_cons.mp nd).2 (by simpa using h1) (by simpa using h2) hk

/-- the names' values at the entry -/
def start (N : List Str) (vs : List V) : St := vs.map some ++ List.replicate (N.length - vs.length) none

/-- the context of a def's body, at its entry; an exception leaves the frame, then lies as CX says -/
def cxOf (CX : CXT) (P : Program) (w : World) (K : PySem.W.Frag) (mg : Str → Option Value) (base : Heap) (N : List Str) (qual : Str) (scope : Scope) (f : Addr) (cd : Value) (A : Around) (outer : List Env) (s : Shared) (H : Hp) (E : XK) : Cx where
  prog := P
  w := w
  K := K
  mg := mg
  base := base
  A := A.deeper (envOfC qual scope s.heap.objs.size f cd)
  N := N
  s₀ := s
  H₀ := H
  env := envOfC qual scope s.heap.objs.size f cd
  outer := outer
  stack := envOfC qual scope s.heap.objs.size f cd :: outer
  ex := []
  calm := true
  fn := fun _ => true
  pn := []
  xe := fun e s' => wpAny (model P w) (A.deeper (envOfC qual scope s.heap.objs.size f cd)) (leaving (envOfC qual scope s.heap.objs.size f cd) e) (fun _ s'' => CX outer H s E e s'') (fun e' s'' => CX outer H s E e' s'') s'

theorem cell_has {sc : Scope} {n : Nat} {x : Str} (h : sc.names.lookup x = some .cell) : ∃ c, (cellsFrom n sc.names []).lookup x = some c := by
  have q := PySem.W.cellsFrom_some sc.names n [] (.inl h)
  exact Option.isSome_iff_exists.mp q

theorem inv_start {CX : CXT} {P : Program} {w : World} {K : PySem.W.Frag} {mg : Str → Option Value} {base : Heap} {N ps : List Str} {qual : Str} {scope : Scope} {f : Addr} {cd : Value} {A : Around} {outer : List Env} {s s1 : Shared} {H : Hp} {E : XK} {us : List Value} {vs : List V}
    (S : FnScope N ps scope) (hd : A.handled = none) (e0 : Env0 P w K mg base A outer s H) (hl : vs.length = ps.length) (r : Vals vs us)
    (x : InCallC s s.heap.objs.size (bindL (envOfC qual scope s.heap.objs.size f cd).kindOf (ps.zip us) fun _ => none) (cellsFrom (s.heap.objs.size + 1) scope.names []) (bindC (envOfC qual scope s.heap.objs.size f cd).kindOf (ps.zip us) fun _ => none) s1) :
    Inv (cxOf CX P w K mg base N qual scope f cd A outer s H E) [] (start N vs) H s1 := by
  have hpl : ps.length ≤ N.length := by have := congrArg List.length S.pre; rw [List.length_take] at this; omega
  obtain ⟨h1, tk, rfl, hk⟩ := x.done
  have noA : ∀ b : Addr, b ∉ (cxOf CX P w K mg base N qual scope f cd A outer s H E).ex := fun b z => absurd (show b ∈ ([] : List Addr) from z) (by simp)
  refine ⟨⟨e0.mod, S.kind, rfl, rfl, Nat.le_refl _, fun y z c h1 h2 => ?_, fun y hy => ?_, fun y c _ h => ?_, fun _ => hd, Around.frames_deeper e0.frames, .inr ⟨rfl, rfl⟩, fun b z => absurd z (noA b), e0.bs, e0.bsz, fun b _ _ => noA b, fun b z => absurd z (noA b), e0.funs, e0.frf⟩,
    rfl, e0.bare, Un.kept hk, ⟨_, x.toInCall.ns, fun i y v h1 h2 h3 => ?_⟩, fun y c h => ⟨_, x.cell y c h⟩, e0.hok.fresh (Nat.le_refl _), fun y c h => ?_, fun p hp => absurd (show p ∈ ([] : List (Addr × Obj)) from hp) (by simp), e0.hok.kept hk, ?_⟩
  · exact name_of_addr x.apart (PySem.mem_of_lookup h1) (PySem.mem_of_lookup h2)
  · have hy : scope.names.lookup y = some .cell ∨ scope.names.lookup y = some .free := hy
    rcases hy with hy | hy
    · exact cell_has hy
    · exact absurd rfl (S.nofree _ (PySem.mem_of_lookup hy))
  · exact Nat.le_of_lt (x.above y c (PySem.mem_of_lookup h))
  · have hi : i < vs.length := by
      unfold start at h2
      by_cases hi : i < vs.length
      · exact hi
      · rw [List.getElem?_append_right (by simpa using hi)] at h2
        rw [List.getElem?_replicate] at h2
        split at h2 <;> cases h2
    have ha : vs[i]? = some v := by
      unfold start at h2
      rw [List.getElem?_append_left (by simpa using hi), List.getElem?_map] at h2
      cases e : vs[i]? with
      | none => rw [e] at h2; cases h2
      | some a => rw [e] at h2; cases h2; rfl
    obtain ⟨u, hu, rv⟩ := r.get ha
    have hp : ps[i]? = some y := by
      rw [← S.pre, List.getElem?_take_of_lt (by omega)]; exact h1
    have ndP : ps.Nodup := by rw [← S.pre]; exact S.nd.sublist (List.take_sublist _ _)
    refine ⟨u, rv, ?_⟩
    rcases S.par y (List.mem_of_getElem? hp) with k | k
    · exact .inl ⟨k, bindL_get ndP hp hu k⟩
    · obtain ⟨c, e⟩ := cell_has (n := s.heap.objs.size + 1) k
      refine .inr ⟨.inl k, c, e, ?_⟩
      have q := x.cell y c e
      rw [bindC_get ndP hp hu (by show scope.names.lookup y ≠ _; rw [k]; decide)] at q
      exact q
  · exact e0.hok.fresh (Nat.le_of_lt (x.above y c (PySem.mem_of_lookup h)))
  · unfold start
    show _ = N.length
    rw [List.length_append, List.length_map, List.length_replicate]
    omega

/-- THE RULE: a def (or a method) of the text, by its body. The body's reading t is chosen for each entry; it is run at the parameters' values -/
theorem fn_of {CX : CXT} {P : Program} {w : World} {K : PySem.W.Frag} {mg : Str → Option Value} {base : Heap} {k : Nat} {f : Addr} {name qual : Str} {params : Arguments} {body : List Stmt} {scope : Scope} {dV kV doc pm cdv ct oc : Value} {an od : Option Addr}
    {osl : Array (Option Value)} {N ps : List Str} {sp : Sp} (lk : K.lookup f = some ⟨oc, od, .func (PySem.W.fnOf name qual params body scope dV kV doc pm an cdv ct), osl⟩) (hcd : PySem.W.codeIn K cdv qual = true) (S : FnScope N ps scope)
    (len : ∀ vs H Q E, sp vs H Q E → vs.length = ps.length)
    (hbody : ∀ (A : Around) (outer : List Env) (s : Shared) (H : Hp) (vs : List V) (Q : VK) (E : XK), Room k (A.deeper (envOfC qual scope s.heap.objs.size f cdv)) → sp vs H Q E →
      ∃ t, PSs (cxOf CX P w K mg base N qual scope f cdv A outer s H E) body t ∧ t { nx := fun _ H' => Q .non H', rt := Q } (start N vs) H) :
    FnOk P w K mg base CX (k + 1) f (PySem.W.fnOf name qual params body scope dV kV doc pm an cdv ct) ps sp := by
  refine ⟨len, fun A outer s H args us vs Q E hr e0 hb r hsp => ?_⟩
  have hl := len _ _ _ _ hsp
  have KX : K.In s.heap := e0.mod.kin.keeps fun b o e => (e0.bs b o e).1
  have lim : s.heap.NoLimit := e0.mod.nolimit.keeps fun b o e => (e0.bs b o e).1
  have hkind : ∀ y ∈ ps.zip us, scope.names.lookup y.1 = some .local ∨ (scope.names.lookup y.1 = some .cell ∧ ((cellsFrom (s.heap.objs.size + 1) scope.names []).lookup y.1).isSome = true) := fun ⟨n, v⟩ hy => by
    rcases S.par n (List.of_mem_zip hy).1 with q | q
    · exact .inl q
    · exact .inr ⟨q, PySem.W.cellsFrom_some _ _ _ (.inl q)⟩
  refine codeAny_call_function hr.depth (KX _ _ lk) rfl S.co S.gen rfl (PySem.W.codeRec_of KX hcd) (hb _ _ _ _ ?_)
  refine wpAny_newFunctionEnv_cells S.kind hkind fun env he s1 x => ?_
  subst he
  refine ⟨lim.keeps x.toInCall.keep, codeAny_func ?_⟩
  obtain ⟨t, ht, hq⟩ := hbody A outer s H vs Q E (hr.deeper _) hsp
  have I : Inv (cxOf CX P w K mg base N qual scope f cdv A outer s H E) [] (start N vs) H s1 := inv_start S hr.hd e0 hl r x
  refine wpAny_mono (ht [] s1 (start N vs) H _ I hq) (fun fl s' hs => ?_) fun e s' hs => hs
  have fin : ∀ {σ' : St} {H' : Hp} {v : V} {u : Value}, Inv (cxOf CX P w K mg base N qual scope f cdv A outer s H E) [] σ' H' s' → RelV v u → Q v H' → CE outer P w H s Q u s' :=
    fun {σ' H' v u} J rv q => ⟨v, H', J.os, J.bare, J.base, J.hok, rv, q⟩
  cases fl with
  | ret u =>
    obtain ⟨v, σ', H', J, rv, q⟩ := hs
    exact fin J rv q
  | next =>
    obtain ⟨σ', H', J, q⟩ := hs
    exact fin (v := V.non) (u := Value.none) J rfl q
  | brk =>
    obtain ⟨_, _, _, q⟩ := hs
    exact False.elim q
  | cont =>
    obtain ⟨_, _, _, q⟩ := hs
    exact False.elim q
end L2

namespace L2
open PySem PySem.Spec PyProof.Rows
section
variable {X : Cx} {x : Str} {p pos : Pos} {e : Expr} {es : List Expr} {t : TA} {id T : String} {r : List V → Hp → VK → Prop}

def tCB (r : List V → Hp → VK → Prop) (t : TA) : TE := fun σ H Q => t σ H fun vs H1 => r vs H1 Q
/-- f(e, ..), f a built-in function -/
theorem pe_callB (hc : CallR X (.builtin id) r) (hg : Gl X x) (hm : X.mg x = none) (hv : bootBuiltins x = some (.builtin id)) (ha : PA X (e :: es) t) (hn : x ≠ "__name__" := by decide) (hdb : (x == ("__debug__" : Str)) = false := by decide)
    (he : starEach (e :: es) X.env = (false, eval e X.env) :: starEach es X.env := by rfl) (hpl : (backTo pos (starEach es X.env)).any (·.1) = false := by rfl) : PE X (.Call (.Name x p) (e :: es) [] pos) (tCB r t) := by
  intro pins s σ H Q I h
  refine wpAny_Call_Name_kw (ld_blt I hg hm hv ?_ hn hdb)
  exact PyProof.Rows.callWith_builtin1 (thn (ha pos pins s σ H _ I h) fun us s1 ⟨vs, H1, I1, r1, q1⟩ => hc pins s1 σ H1 vs us Q I1 r1 q1) he hpl
/-- T(e, ..), T a built-in type -/
theorem pe_callTy (hc : CallR X (.type T) r) (hg : Gl X x) (hm : X.mg x = none) (hv : bootBuiltins x = some (.type T)) (ha : PA X (e :: es) t) (hn : x ≠ "__name__" := by decide) (hdb : (x == ("__debug__" : Str)) = false := by decide)
    (he : starEach (e :: es) X.env = (false, eval e X.env) :: starEach es X.env := by rfl) (hpl : (backTo pos (starEach es X.env)).any (·.1) = false := by rfl) : PE X (.Call (.Name x p) (e :: es) [] pos) (tCB r t) := by
  intro pins s σ H Q I h
  refine wpAny_Call_Name_kw (ld_blt I hg hm hv ?_ hn hdb)
  exact PyProof.Rows.callWith_type1 (thn (ha pos pins s σ H _ I h) fun us s1 ⟨vs, H1, I1, r1, q1⟩ => hc pins s1 σ H1 vs us Q I1 r1 q1) he hpl
end
end L2

namespace HT
open PySem PyProof.Rows

/-- t < u of tuples of ints -/
def lexLt : List Int → List Int → Bool
  | [], [] => false
  | [], _ :: _ => true
  | _ :: _, [] => false
  | x :: xs, y :: ys => if x = y then lexLt xs ys else decide (x < y)
section
open PySem.SeqAt
open PySem.AutoSeq1 (wpAny_loadPart')
open PySem.MeetsSeq PySem.MeetsSeq2 PySem.MeetsSeq3

end

section
variable {prog : Program} {w : World} {A : Around} {E : Value → Shared → Prop} {s : Shared}

/-! ### t[a:b], not the whole -/
/-- a slice's bound as a place among n (d where it is left out) -/
def sIx (n d : Nat) : Option Int → Nat
  | none => d
  | some v => if v < 0 then (v + (n : Int)).toNat else min v.toNat n
theorem sIx_none (n d : Nat) : sIx n d none = d := rfl
theorem sIx_nat (n d k : Nat) : sIx n d (some (k : Int)) = min k n := by
  show (if (k : Int) < 0 then ((k : Int) + (n : Int)).toNat else min (k : Int).toNat n) = min k n
  rw [if_neg (by omega), Int.toNat_natCast]
end
end HT

namespace L2
open PySem PySem.Spec PyProof.Rows

/-! ### the parts of a slice -/
abbrev TO := St → Hp → (Option Int → Hp → Prop) → Prop
/-- a slice's part (left out, or an int) -/
def PO (X : Cx) (e : Option Expr) (t : TO) : Prop :=
  ∀ (pins : List (Addr × Obj)) (s : Shared) (σ : St) (H : Hp) (Q : Option Int → Hp → Prop), Inv X pins σ H s → t σ H Q →
    wpAny (model X.prog X.w) X.A (evalPart e X.env) (fun u s' => ∃ o H', Inv X pins σ H' s' ∧ IsPart u o ∧ Q o H') X.xe s
def tNoPart : TO := fun _ H Q => Q none H
def tPart (t : TE) : TO := fun σ H Q => t σ H fun x H1 => ∃ i, x = .int i ∧ Q (some i) H1

section
variable {X : Cx} {e : Expr} {te : TE} {lo hi : Option Expr} {tl th : TO} {pos p2 : Pos}

theorem po_none : PO X none tNoPart := by
  intro pins s σ H Q I h
  rw [evalPart_none]
  exact wpAny_pure ⟨none, H, I, .none, h⟩
theorem po_some (h : PE X e te) : PO X (some e) (tPart te) := by
  intro pins s σ H Q I hw
  rw [evalPart_some]
  refine thn (h pins s σ H _ I hw) fun u s1 ⟨x, H1, I1, r1, q1⟩ => ?_
  obtain ⟨i, rfl, q⟩ := q1
  obtain ⟨t, rfl⟩ := r1
  exact ⟨some i, H1, I1, .int i t, q⟩

/-- what a slice of a value is, by values: the slice object stands at sl -/
def SlR (X : Cx) (r : V → Option Int → Option Int → Hp → VK → Prop) : Prop :=
  ∀ (pins : List (Addr × Obj)) (s : Shared) (σ : St) (H : Hp) (x : V) (v vl vu : Value) (lo hi : Option Int) (sl : Addr) (Q : VK), Inv X pins σ H s → RelV x v → s.heap.IsSliceOf sl vl vu .none → IsPart vl lo → IsPart vu hi → r x lo hi H Q →
    ∃ T id, typeLookup (.type T) "__getitem__" = pure (some (.builtin id)) ∧ s.TypeIs v T ∧ wpAny (model X.prog X.w) X.A (getItem v (.ref sl)) (EP X pins σ Q) X.xe s
def tSl (r : V → Option Int → Option Int → Hp → VK → Prop) (te : TE) (tl th : TO) : TE := fun σ H Q => te σ H fun x H1 => tl σ H1 fun l H2 => th σ H2 fun u H3 => r x l u H3 Q
/-- a[lo:hi], any a -/
theorem pe_slice {r : V → Option Int → Option Int → Hp → VK → Prop} (hr : SlR X r) (he : PE X e te) (hl : PO X lo tl) (hu : PO X hi th) : PE X (.Subscript e (.Slice lo hi none p2) pos) (tSl r te tl th) := by
  intro pins s σ H Q I h
  refine Subscript_ (thn (he pins s σ H _ I h) fun v s1 ⟨x, H1, I1, r1, q1⟩ => ?_)
  refine wpAny_Slice (thn (hl pins s1 σ H1 _ I1 q1) fun vl s2 ⟨l, H2, I2, pl, q2⟩ => thn (hu pins s2 σ H2 _ I2 q2) fun vu s3 ⟨u, H3, I3, pu, q3⟩ => ?_)
  rw [evalPart_none]
  refine wpAny_pure ?_
  have I4 : Inv X pins σ H3 { s3 with heap := s3.heap.push { cls := .type "slice", data := .fields #[vl, vu, .none] } } := I3.kept (t' := s3.toks) fun b ob q => Heap.get?_push_of_some _ q
  obtain ⟨T, id, hT, ht, hg⟩ := hr pins { s3 with heap := s3.heap.push { cls := .type "slice", data := .fields #[vl, vu, .none] } } σ H3 x v vl vu l u s3.heap.objs.size Q I4 r1 (Heap.IsSliceOf.new ..) pl pu q3
  show wpAny (model X.prog X.w) X.A (subscriptTail e (.Slice lo hi none p2) v (.ref s3.heap.objs.size)) (EP X pins σ Q) X.xe { s3 with heap := s3.heap.push { cls := .type "slice", data := .fields #[vl, vu, .none] } }
  exact tail_any (ops := [.ref s3.heap.objs.size, v]) ht hT hg (by with_unfolding_all rfl)

/-- the items of xs[lo:hi] -/
def cutV (xs : List V) (lo hi : Option Int) : List V := (xs.drop (HT.sIx xs.length 0 lo)).take (HT.sIx xs.length xs.length hi - HT.sIx xs.length 0 lo)
theorem cutV_length (xs : List V) (lo hi : Option Int) : (cutV xs lo hi).length ≤ xs.length := by
  unfold cutV
  rw [List.length_take, List.length_drop]
  omega
/-- t[lo:hi], not the whole of it (the whole would be t itself) -/
def rSlT (K : PySem.W.Frag) : V → Option Int → Option Int → Hp → VK → Prop := fun x lo hi H Q => ∃ a xs, x = .ref a ∧ SqT K H a xs ∧
  ¬ (HT.sIx xs.length 0 lo = 0 ∧ HT.sIx xs.length xs.length hi = xs.length) ∧ ∀ p, H p = none → Q (.ref p) (upd H p (.tup (cutV xs lo hi)))
/-! ### t < u, t + u -/
def rLtT (K : PySem.W.Frag) : R2 := fun x y H Q => ∃ a b ns ms, x = .ref a ∧ y = .ref b ∧ SqT K H a (ns.map V.int) ∧ SqT K H b (ms.map V.int) ∧ Q (.bl (HT.lexLt ns ms)) H
/-- t + u, t not empty: u empty gives t itself -/
def rCatT (K : PySem.W.Frag) : R2 := fun x y H Q => ∃ a b xs ys, x = .ref a ∧ y = .ref b ∧ SqT K H a xs ∧ SqT K H b ys ∧ xs ≠ [] ∧ xs.length + ys.length ≤ sizeLine ∧
  (ys = [] → Q (.ref a) H) ∧ (ys ≠ [] → ∀ p, H p = none → Q (.ref p) (upd H p (.tup (xs ++ ys))))
end
end L2

namespace L2
open PySem PySem.Spec PyProof.Rows

/-! ### places -/
/-- the place that an index of any sign means -/
def ixN (n : Nat) (i : Int) : Option Nat := if 0 ≤ i then (if i < n then some i.toNat else none) else if -(n : Int) ≤ i then some (i + n).toNat else none
def atI {α : Type} (xs : List α) (i : Int) : Option α := (ixN xs.length i).bind fun j => xs[j]?
theorem ixN_seq {n : Nat} {i : Int} {j : Nat} (h : ixN n i = some j) : seqIndex? i n = some j ∧ j < n ∧ -(n : Int) ≤ i ∧ i < n := by
  unfold ixN at h
  by_cases h0 : 0 ≤ i
  · rw [if_pos h0] at h
    by_cases h1 : i < n
    · rw [if_pos h1] at h
      have e : i.toNat = j := Option.some.inj h
      exact ⟨by rw [seqIndex_of h0 h1, e], by omega, by omega, h1⟩
    · rw [if_neg h1] at h; cases h
  · rw [if_neg h0] at h
    by_cases h1 : -(n : Int) ≤ i
    · rw [if_pos h1] at h
      have e : (i + n).toNat = j := Option.some.inj h
      exact ⟨by rw [seqIndex_neg (by omega) h1, e], by omega, h1, by omega⟩
    · rw [if_neg h1] at h; cases h
theorem atI_get {α : Type} {xs : List α} {i : Int} {v : α} (h : atI xs i = some v) : ∃ j, seqIndex? i xs.length = some j ∧ xs[j]? = some v ∧ j < xs.length ∧ -(xs.length : Int) ≤ i ∧ i < xs.length := by
  unfold atI at h
  cases e : ixN xs.length i with
  | none => rw [e] at h; cases h
  | some j =>
    rw [e] at h
    obtain ⟨h1, h2, h3, h4⟩ := ixN_seq e
    exact ⟨j, h1, h, h2, h3, h4⟩
theorem atI_nat {α : Type} {xs : List α} {j : Nat} {v : α} (h : xs[j]? = some v) : atI xs (j : Int) = some v := by
  have hj : j < xs.length := (List.getElem?_eq_some_iff.mp h).1
  have e : ixN xs.length (j : Int) = some j := by
    unfold ixN
    rw [if_pos (by omega), if_pos (by omega)]; simp
  unfold atI; rw [e]; exact h
theorem atI_last {α : Type} (xs : List α) (v : α) : atI (xs ++ [v]) (-1) = some v := by
  have hl : (xs ++ [v]).length = xs.length + 1 := by simp
  have e : ixN (xs ++ [v]).length (-1) = some xs.length := by
    unfold ixN
    rw [hl, if_neg (by decide), if_pos (by omega)]
    congr 1
    omega
  unfold atI
  rw [e]
  show (xs ++ [v])[xs.length]? = some v
  simp

/-! ### what may be subscripted -/
/-- what stands as an index of a plain subscript -/
def PlainIx (b : Expr) : Prop := ∀ o i, subscripted b false o i = operate [o, i] (getItem o i)
/-- a subscript by values -/
def IxR (X : Cx) (r : R2) : Prop :=
  ∀ (value slice : Expr) (pins : List (Addr × Obj)) (s : Shared) (σ : St) (H : Hp) (x y : V) (v u : Value) (Q : VK), Inv X pins σ H s → RelV x v → RelV y u → r x y H Q →
    subscripted slice false v u = operate [v, u] (getItem v u) → wpAny (model X.prog X.w) X.A (subscriptTail value slice v u) (EP X pins σ Q) X.xe s
/-- a call of a builtin's method by values: the receiver, the arguments -/
def MtR (X : Cx) (id : String) (r : V → List V → Hp → VK → Prop) : Prop :=
  ∀ (pins : List (Addr × Obj)) (s : Shared) (σ : St) (H : Hp) (x : V) (xs : List V) (v : Value) (us : List Value) (Q : VK), Inv X pins σ H s → RelV x v → Vals xs us → r x xs H Q →
    wpAny (model X.prog X.w) X.A (call (.builtin id) (v :: us)) (EP X pins σ Q) X.xe s
section
variable {X : Cx} {a b : Expr} {ta tb : TE} {pos : Pos}
/-- a[b] -/
theorem pe_ix {r : R2} (hr : IxR X r) (ha : PE X a ta) (hb : PE X b tb) (hs : PlainIx b) : PE X (.Subscript a b pos) (tOp r ta tb) := by
  intro pins s σ H Q I h
  exact Subscript_ (binT ha hb I h fun v u s2 x y H2 I2 rx ry q => hr a b pins s2 σ H2 x y v u Q I2 rx ry q (hs _ _))

def rIxL (K : PySem.W.Frag) : R2 := fun x y H Q => ∃ p xs i v, x = .ref p ∧ y = .int i ∧ SqL K H p xs ∧ atI xs i = some v ∧ Q v H
def rIxT (K : PySem.W.Frag) : R2 := fun x y H Q => ∃ p xs i v, x = .ref p ∧ y = .int i ∧ SqT K H p xs ∧ atI xs i = some v ∧ Q v H
def rIxS : R2 := fun x y H Q => ∃ z i c, x = .str z ∧ y = .int i ∧ z.length ≤ sizeLine ∧ atI z.cps.toList i = some c ∧ Q (.str ⟨#[c]⟩) H
theorem ix_list : IxR X (rIxL X.K) := by
  intro value slice pins s σ H x y v u Q I rx ry h hs
  obtain ⟨p, xs, i, z, rfl, rfl, hq, he, q⟩ := h
  cases rx
  obtain ⟨t, rfl⟩ := ry
  obtain ⟨its, r, pl, hz⟩ := I.list hq
  obtain ⟨j, h1, h2, h3, h4, h5⟩ := atI_get he
  obtain ⟨w, ew, rw'⟩ := r.get h2
  have hl := r.length
  have hn := line63
  have fin : EP X pins σ Q w s := ⟨z, H, I, rw', q⟩
  by_cases h0 : 0 ≤ i
  · have hj : i.toNat = j := by
      rw [seqIndex_of h0 h5] at h1
      exact Option.some.inj h1
    exact item_listR pl.isList h0 (by omega) (by rw [hj]; simpa using ew) fin hs
  · have hj : (i + (its.toArray.size : Int)).toNat = j := by
      rw [seqIndex_neg (by omega) h4] at h1
      rw [List.size_toArray, ← hl]
      exact Option.some.inj h1
    exact subscriptTail_builtinR (x := w) pl.isList.typeIs slot_list_getitem.lookup
      (wpAny_getItem_list_neg (Q := fun r s' => r = w ∧ EP X pins σ Q r s') pl.isList (by omega) (by rw [List.size_toArray] <;> omega) (by omega) (by rw [hj]; simpa using ew) ⟨rfl, fin⟩) hs
theorem ix_tup : IxR X (rIxT X.K) := by
  intro value slice pins s σ H x y v u Q I rx ry h hs
  obtain ⟨p, xs, i, z, rfl, rfl, hq, he, q⟩ := h
  cases rx
  obtain ⟨t, rfl⟩ := ry
  obtain ⟨its, r, pl, hz⟩ := I.tuple hq
  obtain ⟨j, h1, h2, h3, h4, h5⟩ := atI_get he
  obtain ⟨w, ew, rw'⟩ := r.get h2
  have hl := r.length
  have hn := line63
  have fin : EP X pins σ Q w s := ⟨z, H, I, rw', q⟩
  exact subscriptTail_builtinR (x := w) pl.typeIs slot_tuple_getitem.lookup
    (getItem_tuple (j := j) (Q := fun r s' => r = w ∧ EP X pins σ Q r s') pl (by omega) (by omega) (by rw [List.size_toArray, ← hl]; exact h1) (by simpa using ew) ⟨rfl, fin⟩) hs
theorem ix_str : IxR X rIxS := by
  intro value slice pins s σ H x y v u Q I rx ry h hs
  obtain ⟨z, i, c, rfl, rfl, hz, he, q⟩ := h
  obtain ⟨t, rfl⟩ := rx
  obtain ⟨t', rfl⟩ := ry
  obtain ⟨j, h1, h2, h3, h4, h5⟩ := atI_get he
  have hl : z.cps.toList.length = z.length := by simp [Str.length]
  rw [hl] at h1 h4 h5
  have hn := line63
  exact tail_any (typeIs_str s z t) slot_str_getitem.lookup (getItem_str (c := c) (by
    have e1 : decide (i < -(2 ^ 63 : Int)) = false := decide_eq_false (by omega)
    have e2 : decide (i ≥ 2 ^ 63) = false := decide_eq_false (by omega)
    rw [e1, e2, Bool.or_false]) (by rw [h1]; simpa using h2) ⟨.str ⟨#[c]⟩, H, I.tok _, ⟨_, rfl⟩, q⟩) hs
/-- list, tuple or str -/
def rIx (K : PySem.W.Frag) : R2 := fun x y H Q => rIxL K x y H Q ∨ rIxT K x y H Q ∨ rIxS x y H Q
/-! ### xs[i] = v, any sign -/
theorem Inv.lst {pins : List (Addr × Obj)} {σ : St} {H : Hp} {s : Shared} {p : Addr} {xs : List V} (I : Inv X pins σ H s) (h : H p = some (.lst xs)) :
    ∃ (its : List Value) (n : Nat), Vals xs its ∧ s.heap.get? p = some { cls := .type "list", data := .seq its.toArray n } ∧ xs.length ≤ sizeLine := by
  obtain ⟨z, its, n, r, e⟩ := I.hok p _ h
  exact ⟨its, n, r, e, z⟩
def rSetL : V → V → V → Hp → (Hp → Prop) → Prop := fun o i v H Q => ∃ p xs k j, o = .ref p ∧ i = .int k ∧ H p = some (.lst xs) ∧ ixN xs.length k = some j ∧ Q (upd H p (.lst (xs.set j v)))
/-! ### slices -/
theorem slice_bounds (lo hi : Option Int) (n : Nat) : (sliceBounds lo hi none n).1 = ((HT.sIx n 0 lo : Nat) : Int) ∧ (sliceBounds lo hi none n).2.1 = ((HT.sIx n n hi : Nat) : Int) ∧ (sliceBounds lo hi none n).2.2 = 1 := by
  refine ⟨?_, ?_, rfl⟩
  · cases lo with
    | none => simp [sliceBounds, HT.sIx]
    | some i =>
      simp only [sliceBounds, HT.sIx, Option.getD_none, show (1 : Int) > 0 by decide, if_true]
      by_cases h : i < 0
      · simp only [h, if_true] <;> omega
      · simp only [h, if_false] <;> omega
  · cases hi with
    | none => simp [sliceBounds, HT.sIx]
    | some i =>
      simp only [sliceBounds, HT.sIx, Option.getD_none, show (1 : Int) > 0 by decide, if_true]
      by_cases h : i < 0
      · simp only [h, if_true] <;> omega
      · simp only [h, if_false] <;> omega
theorem slicePick_cut (its : List Value) (lo hi : Option Int) : slicePick its.toArray lo hi none = ((its.drop (HT.sIx its.length 0 lo)).take (HT.sIx its.length its.length hi - HT.sIx its.length 0 lo)).toArray := by
  obtain ⟨h1, h2, h3⟩ := slice_bounds lo hi its.toArray.size
  unfold slicePick
  rw [h1, h2, h3]
  simp only [sliceRange_one, pick_run, List.size_toArray] <;> rfl
/-- xs[lo:hi] of a list: a new list -/
def rSlL (K : PySem.W.Frag) : V → Option Int → Option Int → Hp → VK → Prop := fun x lo hi H Q => ∃ a xs, x = .ref a ∧ SqL K H a xs ∧ ∀ p, H p = none → Q (.ref p) (upd H p (.lst (cutV xs lo hi)))
theorem sl_list : SlR X (rSlL X.K) := by
  intro pins s σ H x v vl vu lo hi sl Q I rx hs pl pu h
  obtain ⟨a, xs, rfl, hx, q⟩ := h
  cases rx
  obtain ⟨its, r, ht, hz⟩ := I.list hx
  have hlen := r.length
  refine ⟨"list", _, slot_list_getitem.lookup, ht.isList.typeIs, ?_⟩
  refine wpAny_getItem_list_slice ht.isList hs pl pu .none (by simp) ?_ (by rw [List.size_toArray] <;> omega)
  rw [slicePick_cut, ← hlen]
  refine ⟨.ref s.heap.objs.size, _, I.laid (t' := s.toks) (o := .lst (cutV xs lo hi)) (fun b ob q => Heap.get?_push_of_some _ q) (Nat.le_refl _) ?_, rfl, q _ (I.hok.fresh (Nat.le_refl _))⟩
  exact ⟨Nat.le_trans (cutV_length xs lo hi) hz, _, 0, (r.drop (HT.sIx xs.length 0 lo)).take (HT.sIx xs.length xs.length hi - HT.sIx xs.length 0 lo), Heap.get?_push_size _ rfl⟩

/-! ### in, not in: flat items -/
def flatV : V → Bool
  | .non => true
  | .bl _ => true
  | .int _ => true
  | .str _ => true
  | _ => false
/-- == of flat values -/
def eqV : V → V → Bool
  | .non, .non => true
  | .bl a, .bl b => a == b
  | .bl a, .int b => (if a then 1 else 0) == b
  | .int a, .bl b => a == (if b then 1 else 0)
  | .int a, .int b => a == b
  | .str a, .str b => a == b
  | _, _ => false
theorem eqAt_V {A : Around} {s : Shared} {y x : V} {u v : Value} (ry : RelV y u) (rx : RelV x v) (fy : flatV y = true) (fx : flatV x = true) : SeqAt.EqAt A s u v (eqV y x) := by
  cases y with
  | non =>
    cases ry
    cases x with
    | non => cases rx; exact SeqAt.EqAt.same _
    | bl b => cases rx; exact SeqAt.EqAt.none_bool b
    | int b => obtain ⟨t, rfl⟩ := rx; exact SeqAt.EqAt.none_int b t
    | str b => obtain ⟨t, rfl⟩ := rx; exact SeqAt.EqAt.none_str b t
    | _ => exact absurd (show false = true from fx) Bool.false_ne_true
  | bl a =>
    cases ry
    cases x with
    | non => cases rx; exact SeqAt.EqAt.bool_none a
    | bl b => cases rx; exact SeqAt.EqAt.bool_bool a b
    | int b => obtain ⟨t, rfl⟩ := rx; exact SeqAt.EqAt.bool_int a b t
    | str b => obtain ⟨t, rfl⟩ := rx; exact SeqAt.EqAt.bool_str a b t
    | _ => exact absurd (show false = true from fx) Bool.false_ne_true
  | int a =>
    obtain ⟨t', rfl⟩ := ry
    cases x with
    | non => cases rx; exact SeqAt.EqAt.int_none a t'
    | bl b => cases rx; exact SeqAt.EqAt.int_bool a t' b
    | int b => obtain ⟨t, rfl⟩ := rx; exact SeqAt.EqAt.int_int a t' b t
    | str b => obtain ⟨t, rfl⟩ := rx; exact SeqAt.EqAt.int_str a t' b t
    | _ => exact absurd (show false = true from fx) Bool.false_ne_true
  | str a =>
    obtain ⟨t', rfl⟩ := ry
    cases x with
    | non => cases rx; exact SeqAt.EqAt.str_none a t'
    | bl b => cases rx; exact SeqAt.EqAt.str_bool a t' b
    | int b => obtain ⟨t, rfl⟩ := rx; exact SeqAt.EqAt.str_int a t' b t
    | str b => obtain ⟨t, rfl⟩ := rx; exact SeqAt.EqAt.str_str a t' b t
    | _ => exact absurd (show false = true from fx) Bool.false_ne_true
  | _ => exact absurd (show false = true from fy) Bool.false_ne_true
/-- the items' answers, read off the values (a value's own answer does not lean on its token) -/
def eqU (x : V) (u : Value) : Bool := match u with
  | .none => eqV .non x
  | .bool b => eqV (.bl b) x
  | .int i _ => eqV (.int i) x
  | .str z _ => eqV (.str z) x
  | _ => false
theorem eqU_of {x y : V} {u : Value} (r : RelV y u) (f : flatV y = true) : eqU x u = eqV y x := by
  cases y with
  | non => cases r; rfl
  | bl b => cases r; rfl
  | int i => obtain ⟨t, rfl⟩ := r; rfl
  | str z => obtain ⟨t, rfl⟩ := r; rfl
  | _ => exact absurd (show false = true from f) Bool.false_ne_true
theorem any_eqU {x : V} : ∀ {xs : List V} {us : List Value}, Vals xs us → xs.all flatV = true → us.any (eqU x) = xs.any fun y => eqV y x
  | _, _, .nil, _ => rfl
  | y :: xs, u :: us, .cons r t, f => by
    rw [List.all_cons, Bool.and_eq_true] at f
    rw [List.any_cons, List.any_cons, eqU_of r f.1, any_eqU t f.2]
theorem mem_eqAt {A : Around} {s : Shared} {x : V} {v : Value} (rx : RelV x v) (fx : flatV x = true) : ∀ {xs : List V} {us : List Value}, Vals xs us → xs.all flatV = true → ∀ u ∈ us, SeqAt.EqAt A s u v (eqU x u)
  | _, _, .nil, _ => fun u hu => by cases hu
  | y :: xs, u :: us, .cons r t, f => fun u' hu => by
    rw [List.all_cons, Bool.and_eq_true] at f
    rcases List.mem_cons.mp hu with rfl | hu
    · rw [eqU_of r f.1]; exact eqAt_V r rx f.1 fx
    · exact mem_eqAt rx fx t f.2 u' hu
def inV (x : V) (xs : List V) : Bool := xs.any fun y => eqV y x
/-- x in a list or tuple of flat items -/
def rIn (K : PySem.W.Frag) (neg : Bool) : R2 := fun x y H Q => ∃ p xs, y = .ref p ∧ (SqL K H p xs ∨ SqT K H p xs) ∧ flatV x = true ∧ xs.all flatV = true ∧ Q (.bl (if neg then !inV x xs else inV x xs)) H
theorem op_in_seq : OpR X (compareOp .In) (rIn X.K false) := by
  intro pins s σ H x y v u Q I rx ry h
  obtain ⟨p, xs, rfl, hq, fx, fs, q⟩ := h
  cases ry
  rcases hq with hq | hq
  · obtain ⟨its, r, pl, hz⟩ := I.list hq
    refine SeqAt.in_listAt (eqU x) pl.isList (fun w hw => mem_eqAt rx fx r fs w (by simpa using hw)) ⟨.bl _, H, I, rfl, ?_⟩
    rw [show its.toArray.any (eqU x) = its.any (eqU x) by simp, any_eqU r fs]
    exact q
  · obtain ⟨its, r, pl, hz⟩ := I.tuple hq
    refine SeqAt.in_tupleAt (eqU x) pl (fun w hw => mem_eqAt rx fx r fs w (by simpa using hw)) ⟨.bl _, H, I, rfl, ?_⟩
    rw [show its.toArray.any (eqU x) = its.any (eqU x) by simp, any_eqU r fs]
    exact q
theorem op_notIn_seq : OpR X (compareOp .NotIn) (rIn X.K true) := by
  intro pins s σ H x y v u Q I rx ry h
  obtain ⟨p, xs, rfl, hq, fx, fs, q⟩ := h
  cases ry
  rcases hq with hq | hq
  · obtain ⟨its, r, pl, hz⟩ := I.list hq
    refine SeqAt.notIn_listAt (eqU x) pl.isList (fun w hw => mem_eqAt rx fx r fs w (by simpa using hw)) ⟨.bl _, H, I, rfl, ?_⟩
    rw [show its.toArray.any (eqU x) = its.any (eqU x) by simp, any_eqU r fs]
    exact q
  · obtain ⟨its, r, pl, hz⟩ := I.tuple hq
    refine SeqAt.notIn_tupleAt (eqU x) pl (fun w hw => mem_eqAt rx fx r fs w (by simpa using hw)) ⟨.bl _, H, I, rfl, ?_⟩
    rw [show its.toArray.any (eqU x) = its.any (eqU x) by simp, any_eqU r fs]
    exact q
/-! ### len, list(x), tuple(x) of any list or tuple that is read -/
theorem call_len_seq : CallR X (.builtin "len") (fun xs H Q => ∃ p ys, xs = [.ref p] ∧ (SqL X.K H p ys ∨ SqT X.K H p ys) ∧ Q (.int ys.length) H) := by
  intro pins s σ H xs us Q I r h
  obtain ⟨p, ys, rfl, hq, q⟩ := h
  obtain ⟨u, rfl, rx⟩ := vals1 r
  cases rx
  have hn := line63
  rcases hq with hq | hq
  · obtain ⟨its, r', pl, hz⟩ := I.list hq
    have hlen := r'.length
    exact Calls.call_len_list pl.isList (by simp only [List.size_toArray] <;> omega) ⟨.int ys.length, H, I.tok _, ⟨s.toks + 1, by rw [List.size_toArray, hlen]⟩, q⟩
  · obtain ⟨its, r', pl, hz⟩ := I.tuple hq
    have hlen := r'.length
    exact len_tuple pl (by simp only [List.size_toArray] <;> omega) ⟨.int ys.length, H, I.tok _, ⟨s.toks + 1, by rw [List.size_toArray, hlen]⟩, q⟩
theorem call_list_of : CallR X (.type "list") (fun xs H Q => ∃ p ys, xs = [.ref p] ∧ (SqL X.K H p ys ∨ SqT X.K H p ys) ∧ ∀ l, H l = none → Q (.ref l) (upd H l (.lst ys))) := by
  intro pins s σ H xs us Q I r h
  obtain ⟨p, ys, rfl, hq, q⟩ := h
  obtain ⟨u, rfl, rx⟩ := vals1 r
  cases rx
  have fin : ∀ (its : List Value), Vals ys its → ys.length ≤ sizeLine → ∀ (h' : Heap) (c' : Nat), (∀ b o', s.heap.get? b = some o' → h'.get? b = some o') →
      h'.get? s.heap.objs.size = some { cls := .type "list", dict := none, data := .seq its.toArray c', slots := #[] } → EP X pins σ Q (.ref s.heap.objs.size) { s with heap := h' } := fun its r' hz h' c' kp e =>
    ⟨.ref s.heap.objs.size, _, I.laid (t' := s.toks) kp (Nat.le_refl _) (show ObjOk X.prog X.w _ h' _ (.lst ys) from ⟨hz, its, c', r', e⟩), rfl, q _ (I.hok.fresh (Nat.le_refl _))⟩
  rcases hq with hq | hq
  · obtain ⟨its, r', pl, hz⟩ := I.list hq
    have hlen := r'.length
    obtain ⟨o, ho, hc, n, hd⟩ := pl.isList
    exact call_list_seq p (.inl rfl) ho hc hd (fun h' c' kp e => fin its r' hz h' c' kp e) (by simp only [List.size_toArray] <;> omega)
  · obtain ⟨its, r', pl, hz⟩ := I.tuple hq
    have hlen := r'.length
    obtain ⟨o, ho, hc, n, hd⟩ := pl
    exact call_list_seq p (.inr rfl) ho hc hd (fun h' c' kp e => fin its r' hz h' c' kp e) (by simp only [List.size_toArray] <;> omega)
/-! ### the call of a builtin's method: o.m(..) -/
/-- the value is of that builtin type -/
def tyV (K : PySem.W.Frag) (T : String) (x : V) (H : Hp) : Prop := match x with
  | .str _ => T = "str"
  | .int _ => T = "int"
  | .ref p => (T = "list" ∧ ∃ xs, SqL K H p xs) ∨ (T = "tuple" ∧ ∃ o, K.lookup p = some o ∧ o.cls = .type "tuple" ∧ o.dict = none) ∨
      (T = "dict" ∧ ((∃ kvs, H p = some (.dK kvs)) ∨ ∃ kvs, H p = some (.dT kvs))) ∨ (T = "set" ∧ ∃ S n, H p = some (.set S n))
  | _ => False
theorem tyV_is {pins : List (Addr × Obj)} {σ : St} {H : Hp} {s : Shared} {T : String} {x : V} {v : Value} (I : Inv X pins σ H s) (r : RelV x v) (ty : tyV X.K T x H) :
    s.TypeIs v T ∧ ∀ a, v = .ref a → ∃ ob, s.heap.get? a = some ob ∧ ob.dict = none := by
  cases x with
  | str z =>
    obtain ⟨t, rfl⟩ := r
    cases (show T = "str" from ty)
    exact ⟨typeIs_str s z t, fun _ e => nomatch e⟩
  | int i =>
    obtain ⟨t, rfl⟩ := r
    cases (show T = "int" from ty)
    exact ⟨typeIs_int s i t, fun _ e => nomatch e⟩
  | ref p =>
    cases r
    rcases ty with ⟨rfl, xs, hq⟩ | ⟨rfl, o, hk, hc, hd⟩ | ⟨rfl, hk⟩ | ⟨rfl, S, n, hk⟩
    · obtain ⟨its, _, pl, _⟩ := I.list hq
      refine ⟨pl.isList.typeIs, fun a e => ?_⟩
      cases e
      obtain ⟨o, n, e, c, hd, _⟩ := pl
      exact ⟨o, e, hd⟩
    · refine ⟨⟨o, I.kIn p o hk, hc⟩, fun a e => ?_⟩
      cases e
      exact ⟨o, I.kIn _ o hk, hd⟩
    · have z : ∃ o, s.heap.get? p = some o ∧ o.ExactDict := by
        rcases hk with ⟨kvs, hk⟩ | ⟨kvs, hk⟩
        · obtain ⟨_, _, _, _, o, _, _, e, ex, _⟩ := I.hok p _ hk
          exact ⟨o, e, ex⟩
        · obtain ⟨_, _, _, _, o, _, _, e, ex, _⟩ := I.hok p _ hk
          exact ⟨o, e, ex⟩
      obtain ⟨o, e, ex⟩ := z
      refine ⟨⟨o, e, ex.1⟩, fun a e2 => ?_⟩
      cases e2
      exact ⟨o, e, ex.2.1⟩
    · obtain ⟨o, _, _, _, e, ex, _⟩ := I.hok p _ hk
      refine ⟨⟨o, e, ex.1⟩, fun a e2 => ?_⟩
      cases e2
      exact ⟨o, e, ex.2.1⟩
  | _ => exact False.elim ty
def tBM0 (K : PySem.W.Frag) (T : String) (r : V → List V → Hp → VK → Prop) (to : TE) : TE := fun σ H Q => to σ H fun x H1 => tyV K T x H1 ∧ r x [] H1 Q
def tBM (K : PySem.W.Frag) (T : String) (r : V → List V → Hp → VK → Prop) (to : TE) (t : TA) : TE := fun σ H Q => to σ H fun x H1 => tyV K T x H1 ∧ t σ H1 fun xs H2 => r x xs H2 Q
variable {o e : Expr} {es : List Expr} {to : TE} {t : TA} {name : Str} {apos cpos : Pos} {T id : String} {r : V → List V → Hp → VK → Prop}
theorem pe_bm (pa : PlainAttrs T) (slot : Slot T name id) (hty : typeOf (.builtin id) = pure (.type "method_descriptor")) (hm : MtR X id r) (ho : PE X o to) (ha : PA X (e :: es) t)
    (hbase : attributeBase o name X.env (eval o X.env) = eval o X.env := by rfl)
    (hfew : ((backTo cpos (starEach (e :: es) X.env)).all (fun x => !x.1) && (backToKw cpos (keywordEach [] X.env)).all (fun x => x.1.isSome)
      && decide ((e :: es).length + ([] : List Keyword).length + (if ([] : List Keyword).isEmpty then 0 else 1) < 30)) = true := by rfl)
    (hline : (apos.endLine == cpos.line) = true := by rfl) (hs : starEach (e :: es) X.env = (false, eval e X.env) :: starEach es X.env := by rfl) (hplain : (backTo cpos (starEach es X.env)).any (·.1) = false := by rfl) :
    PE X (.Call (.Attribute o name apos) (e :: es) [] cpos) (tBM X.K T r to t) := by
  intro pins s σ H Q I h
  refine wpAny_Call_method_late hbase hfew hline rfl (thn (ho pins s σ H _ I h) fun v s1 ⟨x, H1, I1, r1, ty, q1⟩ => ?_)
  obtain ⟨h1, h2⟩ := tyV_is I1 r1 ty
  refine ⟨T, id, pa, slot, hty, h1, h2, ?_⟩
  have hA := ha cpos pins s1 σ H1 _ I1 q1
  rw [hs] at hA ⊢
  refine Calls.callWith_builtin (by show (false || (backTo cpos (starEach es X.env)).any (·.1)) = false; rw [hplain] <;> rfl) (Calls.evalArgs_plain ?_)
  exact thn hA fun us s2 ⟨vs, H2, I2, r2, q2⟩ => hm pins s2 σ H2 x vs v us Q I2 r1 r2 q2
/- xs.append(e), list.index on a module's tuple .. are MtR facts of 06m -/
end
end L2

namespace L2
open PySem PySem.Spec PyProof.Rows

def MtM (X : Cx) (id : String) (r : V → List V → Hp → VK → Prop) : Prop :=
  ∀ (pins : List (Addr × Obj)) (s : Shared) (σ : St) (H : Hp) (x : V) (xs : List V) (v : Value) (us : List Value) (Q : VK), Inv X pins σ H s → RelV x v → Vals xs us → r x xs H Q →
    wpAny (model X.prog X.w) X.A (call (.builtin id) (v :: us)) (EP X pins σ Q) X.xe s

/-! ### lists of values -/
theorem Vals.one : ∀ {x : V} {us : List Value}, Vals [x] us → ∃ u, us = [u] ∧ RelV x u
  | _, _, .cons r .nil => ⟨_, rfl, r⟩
theorem Vals.zero : ∀ {us : List Value}, Vals [] us → us = []
  | _, .nil => rfl
theorem Vals.dropLast {xs : List V} {us : List Value} (h : Vals xs us) : Vals xs.dropLast us.dropLast := by
  induction h with
  | nil => exact .nil
  | cons r t ih =>
    cases t with
    | nil => exact .nil
    | cons q t' => exact .cons r ih
theorem Vals.eraseIdx : ∀ {xs : List V} {us : List Value} (i : Nat), Vals xs us → Vals (xs.eraseIdx i) (us.eraseIdx i)
  | _, _, _, .nil => .nil
  | _, _, 0, .cons _ t => t
  | _, _, i + 1, .cons r t => .cons r (Vals.eraseIdx i t)
theorem Vals.reverse {xs : List V} {us : List Value} (h : Vals xs us) : Vals xs.reverse us.reverse := by
  induction h with
  | nil => exact .nil
  | cons r t ih => rw [List.reverse_cons, List.reverse_cons]; exact Vals.append ih (.cons r .nil)
section
variable {X : Cx} {pins : List (Addr × Obj)} {σ : St} {H : Hp} {s : Shared} {l b : Addr} {xs ys zs : List V}

/-! ### the two steps: a tracked list is rewritten, a new list is laid -/
theorem Inv.lset {its its' : List Value} {n : Nat} {f : Array Value → Array Value} {t' : Nat} (I : Inv X pins σ H s) (hH : H l = some (.lst xs))
    (e : s.heap.get? l = some { cls := .type "list", data := .seq its.toArray n }) (hf : f its.toArray = its'.toArray) (hv : Vals ys its') (hz : ys.length ≤ sizeLine) :
    Inv X pins σ (upd H l (.lst ys)) { s with heap := s.heap.update l (Obj.mapSeq f), toks := t' } := by
  have q := PySem.IsL.update e f
  rw [hf] at q
  refine I.write (x := l) (e := l) (by rw [hH]; exact trivial) (.inl rfl) (fun b' u hb hu => (Heap.get?_update_other s.heap (Obj.mapSeq f) (Ne.symm hb)).trans hu) ⟨_, q⟩ ?_
  exact ⟨hz, its', _, hv, q⟩
theorem Inv.lnew {its : List Value} {t' : Nat} (I : Inv X pins σ H s) (hv : Vals ys its) (hz : ys.length ≤ sizeLine) :
    Inv X pins σ (upd H s.heap.objs.size (.lst ys)) { s with heap := s.heap.push { cls := .type "list", data := .seq its.toArray }, toks := t' } :=
  I.laid (fun _ _ q => Heap.get?_push_of_some _ q) (Nat.le_refl _) ⟨hz, its, 0, hv, Heap.get?_push_size _ rfl⟩
theorem Inv.fresh (I : Inv X pins σ H s) : H s.heap.objs.size = none := I.hok.fresh (Nat.le_refl _)
theorem Inv.lstM (I : Inv X pins σ H s) (hH : H l = some (.lst xs)) : xs.length ≤ sizeLine ∧ ∃ (its : List Value) (n : Nat), Vals xs its ∧ xs.length = its.length ∧ s.heap.get? l = some { cls := .type "list", data := .seq its.toArray n } := by
  obtain ⟨z, its, n, r, e⟩ := I.hok l _ hH
  exact ⟨z, its, n, r, r.length, e⟩

end

section
variable {X : Cx}

/-! ### methods -/
def rAppend : V → List V → Hp → VK → Prop := fun x vs H Q => ∃ l xs y, x = .ref l ∧ vs = [y] ∧ H l = some (.lst xs) ∧ xs.length < sizeLine ∧ Q .non (upd H l (.lst (xs ++ [y])))
theorem mt_append : MtM X "list.append" rAppend := by
  intro pins s σ H x vs v us Q I rx rv h
  obtain ⟨l, xs, y, rfl, rfl, hH, hz, q⟩ := h
  cases rx
  obtain ⟨u, rfl, ru⟩ := rv.one
  obtain ⟨z, its, n, r, hl, e⟩ := I.lstM hH
  refine call_meets F.slot_list_append ⟨_, e, rfl⟩ F.entry_list_append (F.args_list_append_2 _ _) (PySem.list_append l its.toArray n u (by rw [List.size_toArray]; omega)) ⟨e, ?_⟩
  refine ⟨.non, _, I.lset (its' := its ++ [u]) hH e (by simp) (r.append (.cons ru .nil)) ?_, rfl, q⟩
  rw [List.length_append, List.length_singleton]
  omega

def rExtend : V → List V → Hp → VK → Prop := fun x vs H Q => ∃ l b xs zs, x = .ref l ∧ vs = [.ref b] ∧ H l = some (.lst xs) ∧ H b = some (.lst zs) ∧ xs.length + zs.length ≤ sizeLine ∧ Q .non (upd H l (.lst (xs ++ zs)))
def rPop : V → List V → Hp → VK → Prop := fun x vs H Q => ∃ l xs y, x = .ref l ∧ vs = [] ∧ H l = some (.lst xs) ∧ xs[xs.length - 1]? = some y ∧ Q y (upd H l (.lst xs.dropLast))
def rPopAt : V → List V → Hp → VK → Prop := fun x vs H Q => ∃ l xs i k y, x = .ref l ∧ vs = [.int i] ∧ H l = some (.lst xs) ∧ -(2 ^ 63) ≤ i ∧ i < 2 ^ 63 ∧ seqIndex? i xs.length = some k ∧ xs[k]? = some y ∧ Q y (upd H l (.lst (xs.eraseIdx k)))
def rReverse : V → List V → Hp → VK → Prop := fun x vs H Q => ∃ l xs, x = .ref l ∧ vs = [] ∧ H l = some (.lst xs) ∧ Q .non (upd H l (.lst xs.reverse))
def rClear : V → List V → Hp → VK → Prop := fun x vs H Q => ∃ l xs, x = .ref l ∧ vs = [] ∧ H l = some (.lst xs) ∧ Q .non (upd H l (.lst []))
/-! ### list + list, list += list, list * int -/
def rCat : R2 := fun x y H Q => ∃ l b xs zs, x = .ref l ∧ y = .ref b ∧ H l = some (.lst xs) ∧ H b = some (.lst zs) ∧ xs.length + zs.length ≤ sizeLine ∧ ∀ p, H p = none → Q (.ref p) (upd H p (.lst (xs ++ zs)))
theorem op_cat : OpR X (binaryOp .Add) rCat := by
  intro pins s σ H x y v u Q I rx ry h
  obtain ⟨l, b, xs, zs, rfl, rfl, hH, hB, hz, q⟩ := h
  cases rx
  cases ry
  obtain ⟨z, its, n, r, hl, e⟩ := I.lstM hH
  obtain ⟨z2, its2, n2, r2, hl2, e2⟩ := I.lstM hB
  refine PySem.P.add_list e e2 ?_ (by rw [List.size_toArray, List.size_toArray]; omega)
  have ea : its.toArray ++ its2.toArray = (its ++ its2).toArray := by simp
  rw [ea]
  exact ⟨.ref _, _, I.lnew (t' := s.toks) (r.append r2) (by rw [List.length_append]; omega), rfl, q _ I.fresh⟩
/-- a list times an int (a negative one is nothing) -/
def rRep : R2 := fun x y H Q => ∃ l k xs, x = .ref l ∧ y = .int k ∧ H l = some (.lst xs) ∧ -(2 ^ 63) ≤ k ∧ k < 2 ^ 63 ∧ xs.length * k.toNat ≤ sizeLine ∧
  ∀ p, H p = none → Q (.ref p) (upd H p (.lst (List.replicate k.toNat xs).flatten))
/-! ### del xs[i] -/
end

/-! ### xs[a:b] = ys -/
section
variable {prog : Program} {w : World} {A : Around} {E : Value → Shared → Prop} {s : Shared}
end

section
variable {X : Cx}
end
end L2

namespace L2
open PySem PySem.Spec PyProof.Rows

/-! ### lists of pairs as tables -/
section
variable {κ : Type} [DecidableEq κ]
def valV (kvs : List (κ × V)) (k : κ) : Option V := (kvs.find? fun kv => decide (kv.1 = k)).map (·.2)
/-- in its place, or at the end -/
def putK (kvs : List (κ × V)) (k : κ) (v : V) : List (κ × V) :=
  if (kvs.any fun kv => decide (kv.1 = k)) = true then kvs.map (fun kv => if kv.1 = k then (kv.1, v) else kv) else kvs ++ [(k, v)]
def dropK (kvs : List (κ × V)) (k : κ) : List (κ × V) := kvs.filter fun kv => decide (kv.1 ≠ k)

theorem valV_pos {p : κ × V} {r : List (κ × V)} {k : κ} (e : p.1 = k) : valV (p :: r) k = some p.2 := by simp [valV, List.find?_cons, e]
theorem valV_neg {p : κ × V} {r : List (κ × V)} {k : κ} (e : ¬ p.1 = k) : valV (p :: r) k = valV r k := by simp [valV, List.find?_cons, e]
theorem valV_any (k : κ) : ∀ kvs : List (κ × V), (kvs.any fun kv => decide (kv.1 = k)) = (valV kvs k).isSome
  | [] => rfl
  | p :: r => by
    rw [List.any_cons]
    by_cases e : p.1 = k
    · simp only [valV_pos e, decide_eq_true e, Bool.true_or, Option.isSome_some]
    · rw [valV_neg e, decide_eq_false e, Bool.false_or]; exact valV_any k r
theorem RelO.isSome_eq {o : Option V} {u : Option Value} (r : RelO o u) : o.isSome = u.isSome := by
  cases o with
  | none => cases u with
    | none => rfl
    | some _ => exact (show False from r).elim
  | some _ => cases u with
    | none => exact (show False from r).elim
    | some _ => rfl
theorem RelO.getD {o : Option V} {u : Option Value} {d : V} {d' : Value} (r : RelO o u) (rd : RelV d d') : RelV (o.getD d) (u.getD d') := by
  cases o with
  | none => cases u with
    | none => exact rd
    | some _ => exact (show False from r).elim
  | some _ => cases u with
    | none => exact (show False from r).elim
    | some _ => exact r

/-- raw tables of the same keys -/
theorem KV.val {kvs : List (κ × V)} {vs : List (κ × Value)} (r : KV kvs vs) (k : κ) : RelO (valV kvs k) (valueAt vs k) := by
  unfold KV at r
  induction r with
  | nil => exact True.intro
  | @cons p q ps qs h t ih =>
    obtain ⟨h1, h2⟩ := h
    by_cases e : p.1 = k
    · have e' : q.1 = k := h1.symm.trans e
      have b : valueAt (q :: qs) k = some q.2 := by simp [valueAt, List.find?_cons, e']
      rw [valV_pos e, b]; exact h2
    · have e' : ¬ q.1 = k := fun z => e (h1.trans z)
      have b : valueAt (q :: qs) k = valueAt qs k := by simp [valueAt, List.find?_cons, e']
      rw [valV_neg e, b]; exact ih
theorem KV.any {kvs : List (κ × V)} {vs : List (κ × Value)} (r : KV kvs vs) (k : κ) : (kvs.any fun kv => decide (kv.1 = k)) = vs.any fun kv => decide (kv.1 = k) := by
  unfold KV at r
  induction r with
  | nil => rfl
  | cons h t ih => rw [List.any_cons, List.any_cons, ih, h.1]
theorem KV.repl {kvs : List (κ × V)} {vs : List (κ × Value)} (r : KV kvs vs) (k : κ) {y : V} {u : Value} (ry : RelV y u) :
    KV (kvs.map fun kv => if kv.1 = k then (kv.1, y) else kv) (vs.map fun kv => if kv.1 = k then (kv.1, u) else kv) := by
  unfold KV at r ⊢
  induction r with
  | nil => exact .nil
  | @cons p q ps qs h t ih =>
    rw [List.map_cons, List.map_cons]
    refine .cons ?_ ih
    obtain ⟨h1, h2⟩ := h
    by_cases e : p.1 = k
    · rw [if_pos e, if_pos (h1.symm.trans e)]; exact ⟨h1, ry⟩
    · rw [if_neg e, if_neg (fun z => e (h1.trans z))]; exact ⟨h1, h2⟩
theorem KV.put {kvs : List (κ × V)} {vs : List (κ × Value)} (r : KV kvs vs) (k : κ) {y : V} {u : Value} (ry : RelV y u) : KV (putK kvs k y) (stored vs k u) := by
  unfold putK stored
  rw [r.any k]
  by_cases e : (vs.any fun kv => decide (kv.1 = k)) = true
  · rw [if_pos e, if_pos e]; exact r.repl k ry
  · rw [if_neg e, if_neg e]; exact Paired.snoc r ⟨rfl, ry⟩
theorem KV.drop {kvs : List (κ × V)} {vs : List (κ × Value)} (r : KV kvs vs) (k : κ) : KV (dropK kvs k) (without vs k) := by
  unfold KV at r ⊢
  unfold dropK without
  induction r with
  | nil => exact .nil
  | @cons p q ps qs h t ih =>
    obtain ⟨h1, h2⟩ := h
    rw [List.filter_cons, List.filter_cons]
    by_cases e : p.1 = k
    · have a : ¬ decide (p.1 ≠ k) = true := by simp [e]
      have b : ¬ decide (q.1 ≠ k) = true := by simp [h1.symm.trans e]
      rw [if_neg a, if_neg b]; exact ih
    · have e' : ¬ q.1 = k := fun z => e (h1.trans z)
      have a : decide (p.1 ≠ k) = true := by simp [e]
      have b : decide (q.1 ≠ k) = true := by simp [e']
      rw [if_pos a, if_pos b]; exact .cons ⟨h1, h2⟩ ih
theorem KV.keys {kvs : List (κ × V)} {vs : List (κ × Value)} (r : KV kvs vs) : kvs.map (·.1) = vs.map (·.1) := by
  unfold KV at r
  induction r with
  | nil => rfl
  | cons h t ih => rw [List.map_cons, List.map_cons, ih, h.1]
theorem KV.length {kvs : List (κ × V)} {vs : List (κ × Value)} (r : KV kvs vs) : kvs.length = vs.length := Paired.length r
end


/-! ### a tracked dict, its keys ints and texts or tuples of these -/
/-- raw entries of a dict with tuple keys -/
abbrev KT (H : Hp) : List (List Key × V) → List (List Key × Addr × Value) → Prop := Paired fun p q => p.1 = q.1 ∧ H q.2.1 = some (.tup (p.1.map kV)) ∧ RelV p.2 q.2.2
theorem KT.val {H : Hp} {kvs : List (List Key × V)} {xs : List (List Key × Addr × Value)} (r : KT H kvs xs) (k : List Key) : RelO (valV kvs k) ((atKey xs k).map (·.2)) := by
  induction r with
  | nil => exact True.intro
  | @cons p q ps qs h t ih =>
    obtain ⟨h1, _, h2⟩ := h
    by_cases e : p.1 = k
    · have e' : q.1 = k := h1.symm.trans e
      have b : atKey (q :: qs) k = some q.2 := by simp [atKey, List.find?_cons, e']
      rw [valV_pos e, b]; exact h2
    · have e' : ¬ q.1 = k := fun z => e (h1.trans z)
      have b : atKey (q :: qs) k = atKey qs k := by simp [atKey, List.find?_cons, e']
      rw [valV_neg e, b]; exact ih
theorem KT.repl {H : Hp} {kvs : List (List Key × V)} {xs : List (List Key × Addr × Value)} (r : KT H kvs xs) (k : List Key) {y : V} {u : Value} (ry : RelV y u) :
    KT H (kvs.map fun kv => if kv.1 = k then (kv.1, y) else kv) (xs.map (putAt k u)) := by
  induction r with
  | nil => exact .nil
  | @cons p q ps qs h t ih =>
    rw [List.map_cons, List.map_cons]
    refine .cons ?_ ih
    obtain ⟨h1, h2, h3⟩ := h
    unfold putAt
    by_cases e : p.1 = k
    · rw [if_pos e, if_pos (h1.symm.trans e)]; exact ⟨h1, h2, ry⟩
    · rw [if_neg e, if_neg (fun z => e (h1.trans z))]; exact ⟨h1, h2, h3⟩
theorem KT.put {H : Hp} {kvs : List (List Key × V)} {xs : List (List Key × Addr × Value)} (r : KT H kvs xs) (k : List Key) {b : Addr} {y : V} {u : Value} (hb : H b = some (.tup (k.map kV))) (ry : RelV y u) :
    KT H (putK kvs k y) (storedH xs k b u) := by
  have e : (kvs.any fun kv => decide (kv.1 = k)) = (atKey xs k).isSome := by
    rw [valV_any, (r.val k).isSome_eq, Option.isSome_map]
  unfold putK storedH
  rw [e]
  by_cases q : (atKey xs k).isSome = true
  · rw [if_pos q, if_pos q]; exact r.repl k ry
  · rw [if_neg q, if_neg q]; exact Paired.snoc r ⟨rfl, hb, ry⟩
theorem KT.keeps {H H' : Hp} {kvs : List (List Key × V)} {xs : List (List Key × Addr × Value)} (r : KT H kvs xs) (ht : ∀ b ys, H b = some (.tup ys) → H' b = some (.tup ys)) : KT H' kvs xs :=
  Paired.mapP r fun _ _ z => ⟨z.1, ht _ _ z.2.1, z.2.2⟩

section
variable {P : Program} {w : World} {H : Hp} {h : Heap} {a : Addr}
end

/-- what the dict at a holds at the key y -/
def DGet (H : Hp) (a : Addr) (y : V) (r : Option V) : Prop :=
  (∃ kvs k, Rd H a (.dK kvs) ∧ y = kV k ∧ r = valV kvs k) ∨ ∃ kvs k b, Rd H a (.dT kvs) ∧ y = .ref b ∧ H b = some (.tup (k.map kV)) ∧ r = valV kvs k
/-- the heap behind a[y] = v -/
def DPut (H : Hp) (a : Addr) (y v : V) (H' : Hp) : Prop :=
  (∃ kvs k, H a = some (.dK kvs) ∧ y = kV k ∧ kvs.length < sizeLine ∧ H' = upd H a (.dK (putK kvs k v))) ∨
  ∃ kvs k b, H a = some (.dT kvs) ∧ y = .ref b ∧ H b = some (.tup (k.map kV)) ∧ kvs.length < sizeLine ∧ H' = upd H a (.dT (putK kvs k v))
theorem DGet.k {H : Hp} {a : Addr} {kvs : List (Key × V)} {k : Key} (e : H a = some (.dK kvs)) : DGet H a (kV k) (valV kvs k) := .inl ⟨kvs, k, .inl e, rfl, rfl⟩
theorem DGet.t {H : Hp} {a b : Addr} {kvs : List (List Key × V)} {k : List Key} (e : H a = some (.dT kvs)) (eb : H b = some (.tup (k.map kV))) : DGet H a (.ref b) (valV kvs k) := .inr ⟨kvs, k, b, .inl e, rfl, eb, rfl⟩
theorem DPut.k {H : Hp} {a : Addr} {kvs : List (Key × V)} {k : Key} {v : V} (e : H a = some (.dK kvs)) (hl : kvs.length < sizeLine) : DPut H a (kV k) v (upd H a (.dK (putK kvs k v))) := .inl ⟨kvs, k, e, rfl, hl, rfl⟩
theorem DPut.t {H : Hp} {a b : Addr} {kvs : List (List Key × V)} {k : List Key} {v : V} (e : H a = some (.dT kvs)) (eb : H b = some (.tup (k.map kV))) (hl : kvs.length < sizeLine) :
    DPut H a (.ref b) v (upd H a (.dT (putK kvs k v))) := .inr ⟨kvs, k, b, e, rfl, eb, hl, rfl⟩


section
variable {X : Cx} {pins : List (Addr × Obj)} {σ : St} {H : Hp} {s : Shared} {a : Addr} {y v : V} {u r : Value} {o : Option V} {A : Around} {E : Value → Shared → Prop}

theorem Inv.big (I : Inv X pins σ H s) : sysModules < s.heap.objs.size := by
  have h : mainGlobals < s.heap.objs.size := (I.mod.glob.keeps I.bk).lt
  exact Nat.lt_trans (by decide) h

end

section
variable {X : Cx} {pins : List (Addr × Obj)} {σ : St} {H : Hp} {s : Shared} {a : Addr} {kvs : List (Key × V)} {k : Key} {u : Value} {A : Around} {E : Value → Shared → Prop}
end


/-! ### readings and rules -/
/-- the element of a subscription, not a slice -/
def NoSl (i : Expr) : Prop := ∀ ov iv, subscripted i false ov iv = operate [ov, iv] (getItem ov iv)
/-- d[y] -/
def tDGet (td ty : TE) : TE := fun σ H Q => td σ H fun x H1 => ty σ H1 fun y H2 => ∃ a v, x = .ref a ∧ DGet H2 a y (some v) ∧ Q v H2
/-- y in d, y not in d -/
def tDIn (ty td : TE) : TE := fun σ H Q => ty σ H fun y H1 => td σ H1 fun x H2 => ∃ a o, x = .ref a ∧ DGet H2 a y o ∧ Q (.bl o.isSome) H2
def tDNotIn (ty td : TE) : TE := fun σ H Q => ty σ H fun y H1 => td σ H1 fun x H2 => ∃ a o, x = .ref a ∧ DGet H2 a y o ∧ Q (.bl (!o.isSome)) H2
/-- d[y] = v -/
def sDPut (td ty tv : TE) : TS := fun D σ H => tv σ H fun v H1 => td σ H1 fun x H2 => ty σ H2 fun y H3 => ∃ a H4, x = .ref a ∧ DPut H3 a y v H4 ∧ D.nx σ H4
/-- d[y] op= v -/
def sDAug (td ty tv : TE) (rd : V → V → Hp → VK → Prop) : TS := fun D σ H => td σ H fun x H1 => ty σ H1 fun y H2 => ∃ a v, x = .ref a ∧ DGet H2 a y (some v) ∧
  tv σ H2 fun y2 H3 => rd v y2 H3 fun z H4 => ∃ H5, DPut H4 a y z H5 ∧ D.nx σ H5
/-- del d[y] -/
def sDDel (td ty : TE) : TS := fun D σ H => td σ H fun x H1 => ty σ H1 fun y H2 => ∃ a kvs k, x = .ref a ∧ H2 a = some (.dK kvs) ∧ y = kV k ∧ (valV kvs k).isSome = true ∧ D.nx σ (upd H2 a (.dK (dropK kvs k)))

section
variable {X : Cx} {o i e value : Expr} {pos pos' tpos : Pos} {td ty tv : TE}
end


/-! ### displays -/
/-- {}, to be a dict of the kind that is wanted -/
def tDNewK : TE := fun _ H Q => ∀ p, H p = none → Q (.ref p) (upd H p (.dK []))
def tDNewT : TE := fun _ H Q => ∀ p, H p = none → Q (.ref p) (upd H p (.dT []))
section
variable {X : Cx} {pos : Pos}
end

/-- the pairs of a display, from the left -/
def tPairs : List (TE × TE) → St → Hp → (List (V × V) → Hp → Prop) → Prop
  | [], _, H, Q => Q [] H
  | (tk, tv) :: r, σ, H, Q => tk σ H fun x H1 => tv σ H1 fun y H2 => tPairs r σ H2 fun ps H3 => Q ((x, y) :: ps) H3
abbrev VV : List (V × V) → List (Value × Value) → Prop := Paired fun p q => RelV p.1 q.1 ∧ RelV p.2 q.2
def PPs (X : Cx) (pos : Pos) (keys : List (Option Expr)) (values : List Expr) (trs : List (TE × TE)) : Prop :=
  ∀ (pins : List (Addr × Obj)) (s : Shared) (σ : St) (H : Hp) (Q : List (V × V) → Hp → Prop), Inv X pins σ H s → tPairs trs σ H Q →
    wpAny (model X.prog X.w) X.A (evalPairs (pairTrees keys values X.env pos)) (fun vs s' => ∃ ps H', Inv X pins σ H' s' ∧ VV ps vs ∧ Q ps H') X.xe s
def mergeK (kvs more : List (Key × V)) : List (Key × V) := more.foldl (fun acc kv => putK acc kv.1 kv.2) kvs
/-- {k: v, ..} with keys ints and texts; the new dict stands empty while the pairs are made -/
def tDisp (trs : List (TE × TE)) : TE := fun σ H Q => ∀ p, H p = none → tPairs trs σ (upd H p (.dK [])) fun ps H2 => H2 p = some (.dK []) ∧ ∃ kvs : List (Key × V), ps = kvs.map (fun kv => (kV kv.1, kv.2)) ∧ kvs.length ≤ 15 ∧ Q (.ref p) (upd H2 p (.dK (mergeK [] kvs)))
/-! ### methods -/
/-- a method call o.m(e) of a built-in, with one argument: what must be seen of the text -/
structure M1 (X : Cx) (o : Expr) (m : Str) (apos : Pos) (e : Expr) (cpos : Pos) : Prop where
  base : attributeBase o m X.env (eval o X.env) = eval o X.env
  few : ((backTo cpos (starEach [e] X.env)).all (fun x => !x.1) && (backToKw cpos (keywordEach [] X.env)).all (fun x => x.1.isSome)
    && decide (([e] : List Expr).length + ([] : List Keyword).length + (if ([] : List Keyword).isEmpty then 0 else 1) < 30)) = true
  line : (apos.endLine == cpos.line) = true
  trees : backTo cpos (starEach [e] X.env) = [(false, eval e X.env)]
structure M2 (X : Cx) (o : Expr) (m : Str) (apos : Pos) (e f : Expr) (cpos : Pos) : Prop where
  base : attributeBase o m X.env (eval o X.env) = eval o X.env
  few : ((backTo cpos (starEach [e, f] X.env)).all (fun x => !x.1) && (backToKw cpos (keywordEach [] X.env)).all (fun x => x.1.isSome)
    && decide (([e, f] : List Expr).length + ([] : List Keyword).length + (if ([] : List Keyword).isEmpty then 0 else 1) < 30)) = true
  line : (apos.endLine == cpos.line) = true
  trees : backTo cpos (starEach [e, f] X.env) = [(false, eval e X.env), (false, eval f X.env)]

/-- a is a dict, whatever its keys -/
def IsD (H : Hp) (a : Addr) : Prop := (∃ kvs, Rd H a (.dK kvs)) ∨ ∃ kvs, Rd H a (.dT kvs)
section
variable {X : Cx} {pins : List (Addr × Obj)} {σ : St} {H : Hp} {s : Shared} {a : Addr} {y d : V} {u r : Value} {o : Option V} {A : Around} {E : Value → Shared → Prop}
end

def tDGet1 (td ty : TE) : TE := fun σ H Q => td σ H fun x H1 => ∃ a, x = .ref a ∧ IsD H1 a ∧ ty σ H1 fun y H2 => ∃ o, DGet H2 a y o ∧ Q (o.getD .non) H2
def tDGet2 (td ty tx : TE) : TE := fun σ H Q => td σ H fun x H1 => ∃ a, x = .ref a ∧ IsD H1 a ∧ ty σ H1 fun y H2 => tx σ H2 fun z H3 => ∃ o, DGet H3 a y o ∧ Q (o.getD z) H3
/-- d.pop(k): there; d.pop(k, x): there or not -/
def tDPop1 (td ty : TE) : TE := fun σ H Q => td σ H fun x H1 => ∃ a, x = .ref a ∧ IsD H1 a ∧ ty σ H1 fun y H2 => ∃ kvs k v, H2 a = some (.dK kvs) ∧ y = kV k ∧ valV kvs k = some v ∧ Q v (upd H2 a (.dK (dropK kvs k)))
def tDPop2 (td ty tx : TE) : TE := fun σ H Q => td σ H fun x H1 => ∃ a, x = .ref a ∧ IsD H1 a ∧ ty σ H1 fun y H2 => tx σ H2 fun z H3 => ∃ kvs k, H3 a = some (.dK kvs) ∧ y = kV k ∧
  (∀ v, valV kvs k = some v → Q v (upd H3 a (.dK (dropK kvs k)))) ∧ (valV kvs k = none → Q z H3)
section
variable {X : Cx} {o e f : Expr} {apos cpos : Pos} {td ty tx : TE}
end

/-! ### dict(d): a copy -/
section
variable {X : Cx} {pins : List (Addr × Obj)} {σ : St} {H : Hp} {s : Shared} {a : Addr} {kvs : List (Key × V)} {A : Around} {E : Value → Shared → Prop}
end


section
variable {X : Cx} {pins : List (Addr × Obj)} {σ : St} {H : Hp} {s : Shared} {a : Addr} {y : V} {u : Value} {A : Around} {E : Value → Shared → Prop}
end
end L2

namespace Att
open PySem PySem.W PySem.Calls PyProof.Rows

/-! ### the script -/
theorem ints_of_wellAll {P : Params} {h : Heap} : ∀ (ns : List Int) (vs : List Value), WellAll P h vs (ns.map WData.int) → IntsAre vs ns := by
  intro ns
  induction ns with
  | nil =>
    intro vs w
    rw [List.map_nil] at w
    cases w
    exact .nil
  | cons n ns ih =>
    intro vs w
    rw [List.map_cons] at w
    cases w with
    | cons a b =>
      cases a
      exact .cons _ _ (ih _ b)

theorem script_of {l : OpenLaw} {n : Nat} (hn : l.most = some n) {P : Params} {h : Heap} {args : List WData} {vals : List Value}
    (hpre : l.row.toRowW.claim.pre args = true) (hwl : WellAll P h vals args) :
    ∃ a vs ns, vals = [Value.ref a] ∧ args = [WData.list (ns.map WData.int)] ∧ h.get? a = some { cls := .type "list", data := .seq vs.toArray } ∧ IntsAre vs ns ∧ ns.length ≤ n := by
  have hsh : WShape.hasAll [] args [.list .int] = true := (pre_splitW hpre).1
  have hc : l.pre.holds [] { args := args } = true := (pre_splitW hpre).2
  obtain ⟨d, r, rfl, h1, h2⟩ := hasAllW_cons hsh
  obtain rfl := hasAllW_nil h2
  obtain ⟨xs, rfl, h3⟩ := hasW_list h1
  obtain ⟨ns, rfl⟩ := items_int h3
  have hlen : ns.length ≤ n := by
    unfold OpenLaw.pre at hc
    have h4 : (WTm.not (.lt (.lit (.int (n : Int))) (.len (.arg 0)))).holds [] { args := [.list (ns.map .int)] } = true := by
      have h4 := (holds_andW hc).1
      rw [hn] at h4
      exact h4
    have h5 := condW_of h4 (w_not (w_lt w_lit (w_len_list (w_arg rfl))))
    rw [List.length_map] at h5
    refine Nat.le_of_not_lt fun q => ?_
    have q' : (n : Int) < ((ns.length : Nat) : Int) := by omega
    first
      | (rw [decide_eq_true q'] at h5; exact absurd h5 (by decide))
      | (simp at h5; omega)
  cases hwl with
  | cons w1 w2 =>
    cases w2
    cases w1 with
    | list ho hall => exact ⟨_, _, ns, rfl, rfl, ho, ints_of_wellAll ns _ hall, hlen⟩

theorem post_true (l : OpenLaw) (args : List WData) : l.row.toRowW.claim.post args (.bool true) args = true :=
  postW_of (r := l.row.toRowW) (X := (true == true))
    (show WShape.has [] (.bool true) .bool = true by first | rfl | decide | simp [WShape.has, WShape.arms, WShape.armsAll])
    (show (WTm.eq .res (.lit (.bool true))).value [] { args := args, res := some (.bool true), after := args } = some (.bool (true == true)) from w_eq_bool (w_res rfl) w_lit) rfl

/-! ### the attachment: holds_open's last premise (the goal 'hc' behind k_head) from a wpAny of the law's body -/
/-- the same from a codeAny of the CALL (for a layer whose function contracts speak of calls) -/
theorem attach_call {l : OpenLaw} {n : Nat} {q : Program} {loose : List Str} {XP : (Str → Option Value) → Heap → Prop} {YP : World → Heap → Prop} {d : DefRec}
    (hn : l.most = some n) (hdf : d.params.defaults = [])
    (call : ∀ (w : World) (s₀ s₁ : Shared) (mg mb : Str → Option Value) (fa : Addr) (o : Obj) (pm cd doc : Value) (a : Addr) (vs : List Value) (ns : List Int),
      Ground q loose [] XP w s₀ mg mb s₁.heap → YP w s₁.heap →
      s₁.heap.get? fa = some o → o.data = .func (docDef d.name d.params d.body d.scope pm cd doc) → s₁.heap.CodeRec cd d.name → mg d.name = some (.ref fa) →
      s₁.heap.get? a = some { cls := .type "list", data := .seq vs.toArray } → IntsAre vs ns → ns.length ≤ n → s₁.gens = #[] →
      codeAny (model l.prog w) callerA (.call (.ref fa) ⟨[.ref a], []⟩) (fun r s' => r = .ok (.ret (.bool true)) ∧ OldK s₁.heap s'.heap ∧ s'.os = s₁.os ∧ AllBare s'.gens) s₁) :
    WalkO q loose XP YP l.row.toRowW d [] (fun f vs => PySem.call f vs) := by
  intro w s₀ s₁ mg mb G Y fa o pm cd doc dV kV ho hd hcd hD hmg hg args vals as hpre hlay hrd hwl hlo
  obtain rfl : dV = .none := Dflts.none hD hdf
  obtain rfl : kV = .none := Dflts.noKw hD
  obtain ⟨a, vs, ns, rfl, rfl, hobj, hints, hlen⟩ := script_of hn hpre hwl
  refine enter_call (codeAny_mono (call w s₀ s₁ mg mb fa o pm cd doc a vs ns G Y ho (fd_plain hd) hcd hmg hobj hints hlen hg) fun r s' hq => ?_)
  obtain ⟨rfl, h2, h3, h4⟩ := hq
  exact ⟨.inl ⟨.bool true, .bool true, [], rfl, fun _ => rfl, .bool true, post_true l _, fun _ => ⟨List.Pairwise.nil, fun _ hm => (nomatch hm)⟩⟩, h2, h3, h4⟩

/-! ### rules over ANY heap (no ledger) from facts about the written part K: the library's own take a ledger (News) for what they write -/
section
variable {prog : Program} {w : World} {A : Around} {E : Value → Shared → Prop} {s : Shared} {K : Frag}

/-! the whole heap as the ledger: makes every rule that writes through a ledger a rule over any heap -/
def noObjs (h : Heap) : Heap := { h with objs := #[] }
def ledger (h : Heap) (L d : Addr) : List (Addr × Obj) := (List.range h.objs.size).filterMap fun a => if a = L ∨ a = d then none else (h.get? a).map fun o => (a, o)
end
end Att

namespace L2
open PySem PySem.Spec PyProof.Rows

theorem vals_ints : ∀ {vs : List Value} {ns : List Int}, IntsAre vs ns → Vals (ns.map V.int) vs
  | _, _, .nil => .nil
  | _, _, .cons n t h => .cons ⟨t, rfl⟩ (vals_ints h)

/-- nothing is tracked but the script, known to the object (or it is an object of the module) -/
def Only (H : Hp) : Prop := ∀ b, H b = none ∨ ∃ o xs, H b = some (.frz o (.lst xs))

/-- THE HEAD: the law's promise, at the heap behind the top. F, the promise of the law's def, may use that base is part of the heap (so K.In base, base.Ns mainGlobals mg stand in Mod) -/
theorem law_call {P : Program} {w : World} {K : PySem.W.Frag} {mg mb : Str → Option Value} {CX : CXT} {k : Nat} {fa a : Addr} {fd : FuncData} {x : Str} {sp : Sp} {s₁ : Shared} {vs : List Value} {ns : List Int}
    (KX : K.In s₁.heap) (hns : s₁.heap.Ns mainGlobals mg) (hb : s₁.heap.Ns builtinsNs mb) (hbb : ∀ x : Str, x ≠ "__name__" → mb x = bootBuiltins x) (hlim : s₁.heap.NoLimit) (hg : s₁.gens = #[])
    (ha : s₁.heap.get? a = some { cls := .type "list", data := .seq vs.toArray }) (hi : IntsAre vs ns) (hl : ns.length ≤ sizeLine) (hr : Room k callerA)
    (F : ∀ base : Heap, K.In base → base.Ns mainGlobals mg → FnOk P w K mg base CX k fa fd [x] sp) (hbind : ∀ (s : Shared) (u : Value), BindsTo s fd ⟨[u], []⟩ [(x, u)])
    (hsp : ∀ H : Hp, Only H → SqL K H a (ns.map V.int) → sp [.ref a] H (fun v _ => v = .bl true) fun _ _ _ => False)
    (hCX : ∀ H e s', CX [] H s₁ (fun _ _ _ => False) e s' → False) :
    codeAny (model P w) callerA (.call (.ref fa) ⟨[.ref a], []⟩) (fun r s' => r = .ok (.ret (.bool true)) ∧ OldK s₁.heap s'.heap ∧ s'.os = s₁.os ∧ AllBare s'.gens) s₁ := by
  have rv := vals_ints hi
  have lenV := hi.length
  -- from an abstract heap in which nothing but the script may be tracked
  have core : ∀ H : Hp, Only H → SqL K H a (ns.map V.int) → HOk P w H s₁.heap → (∀ b, H b ≠ none → b = a) → (H a ≠ none → K.lookup a = none) →
      codeAny (model P w) callerA (.call (.ref fa) ⟨[.ref a], []⟩) (fun r s' => r = .ok (.ret (.bool true)) ∧ OldK s₁.heap s'.heap ∧ s'.os = s₁.os ∧ AllBare s'.gens) s₁ := by
    intro H hO hS hok hA hK
    have base_of : ∀ {b : Addr} {o : Obj}, s₁.heap.get? b = some o → H b = none → (hidT s₁.heap H).get? b = some o := fun e n => hidT_get e n
    have noA : ∀ {b : Addr} {o : Obj} {es : Array DictEntry} {ep : Nat}, s₁.heap.get? b = some o → o.data = .dict es ep → H b = none := fun {b o es ep} e d => by
      cases q : H b with
      | none => rfl
      | some u =>
        have e' : b = a := hA b (by rw [q]; simp)
        subst e'
        rw [ha] at e; cases e
        have d' : Data.seq vs.toArray _ = Data.dict es ep := d
        cases d'
    have nsK : ∀ {b : Addr} {m : Str → Option Value}, s₁.heap.Ns b m → (hidT s₁.heap H).Ns b m := fun {b m} ⟨o, es, ep, e, d, r⟩ => ⟨o, es, ep, base_of e (noA e d), d, r⟩
    have hKb : K.In (hidT s₁.heap H) := fun b o e => base_of (KX b o e) (by
      cases q : H b with
      | none => rfl
      | some u =>
        have e' : b = a := hA b (by rw [q]; simp)
        subst e'
        rw [hK (by rw [q]; simp)] at e; cases e)
    have hM : Mod K mg (hidT s₁.heap H) := ⟨hKb, nsK hns, ⟨mb, nsK hb, hbb⟩, let ⟨mc, h1, h2⟩ := hlim; ⟨mc, nsK h1, h2⟩⟩
    have e0 : Env0 P w K mg (hidT s₁.heap H) callerA [] s₁ H := ⟨rfl, hM, fun b o e => of_hidT e, Nat.le_of_eq (hidT_size _ _), trivial, fun b hb => absurd (show b ∈ ([] : List Addr) from hb) (by simp), hok, .of_eq hg⟩
    refine codeAny_mono ((F _ hKb (nsK hns)).run callerA [] s₁ H ⟨[.ref a], []⟩ [.ref a] [.ref a] _ _ hr e0 (hbind s₁ (.ref a)) (.cons rfl .nil) (hsp H hO hS)) fun r s' h => ?_
    cases r with
    | error e => exact (hCX H e s' h).elim
    | ok fl =>
      cases fl with
      | next => exact False.elim h
      | brk => exact False.elim h
      | cont => exact False.elim h
      | ret u =>
        obtain ⟨v, H', os, bare, un, hok', r', q⟩ := h
        have q' : v = .bl true := q
        subst q'
        obtain rfl : u = Value.bool true := r'
        refine ⟨rfl, OldK.of_keep fun b o e => ?_, os, bare⟩
        cases q : H b with
        | none => exact un.keep b o e q (by intro z; exact absurd (show b ∈ ([] : List Addr) from z) (by simp)) (by simp)
        | some u =>
          rcases hO b with z | ⟨ob, xs, z⟩
          · rw [q] at z; cases z
          · have z2 := un.frzs b ob _ z
            obtain ⟨e1, _⟩ := hok b _ z
            obtain ⟨e2, _⟩ := hok' b _ z2
            rw [e] at e1; cases e1
            exact e2
  cases hk : K.lookup a with
  | some o =>
    -- the script is one of the module's own objects
    have e := KX a o hk
    rw [ha] at e
    cases e
    refine core (fun _ => none) (fun _ => .inl rfl) (.inr ⟨_, vs.toArray, _, hk, rfl, rfl, rfl, by rw [List.size_toArray, lenV]; exact hl, by simpa using rv⟩) (fun b u z => by have z' : (none : Option HO) = some u := z; cases z') (fun b z => absurd rfl z) fun z => absurd rfl z
  | none =>
    refine core (fun b => if b = a then some (.frz { cls := .type "list", data := .seq vs.toArray } (.lst (ns.map V.int))) else none) (fun b => ?_) (.inl (.inr ⟨{ cls := .type "list", data := .seq vs.toArray }, if_pos rfl⟩)) (fun b u z => ?_) (fun b z => ?_) fun _ => hk
    · by_cases hb : b = a
      · exact .inr ⟨_, _, if_pos hb⟩
      · exact .inl (if_neg hb)
    · by_cases hb : b = a
      · have z' := (if_pos hb).symm.trans z
        cases z'
        subst hb
        exact ⟨ha, by rw [List.length_map]; exact hl, vs, _, rv, ha⟩
      · have z' := (if_neg hb).symm.trans z
        cases z'
    · by_cases hb : b = a
      · exact hb
      · exact absurd (if_neg hb) z
end L2

namespace L2
open PySem PySem.Spec PyProof.Rows

abbrev KOf {K : PySem.W.Frag} {h : Heap} (_ : K.In h) : PySem.W.Frag := K

/-- the goal that k_head leaves (case hc), from the law's promise. F gives the function object fd (K's own) once, then the promise over every base -/
theorem walk_of {l : PySem.W.OpenLaw} {n k : Nat} {q : Program} {loose : List Str} {XP : (Str → Option Value) → Heap → Prop} {YP : World → Heap → Prop} {d : DefRec} {K : Params → PySem.W.Frag} {CX : World → CXT} {sp : World → Sp} {x : Str}
    (hn : l.most = some n) (hn2 : n ≤ sizeLine) (hdf : d.params.defaults = []) (hr : Room k callerA)
    (hY : ∀ (w : World) (h : Heap), YP w h → (K w.params).In h)
    (F : ∀ (w : World) (mg : Str → Option Value) (fa : Addr) (h : Heap), (K w.params).In h → h.Ns mainGlobals mg → mg d.name = some (.ref fa) →
      ∃ fd : FuncData, (∀ (s : Shared) (u : Value), BindsTo s fd ⟨[u], []⟩ [(x, u)]) ∧
        ∀ base : Heap, (K w.params).In base → base.Ns mainGlobals mg → FnOk l.prog w (K w.params) mg base (CX w) k fa fd [x] (sp w))
    (hsp : ∀ (w : World) (H : Hp) (a : Addr) (ns : List Int), ns.length ≤ n → Only H → SqL (K w.params) H a (ns.map V.int) → sp w [.ref a] H (fun v _ => v = .bl true) fun _ _ _ => False)
    (hCX : ∀ (w : World) (H : Hp) (s : Shared) (e : Value) (s' : Shared), CX w [] H s (fun _ _ _ => False) e s' → False) :
    PySem.W.WalkO q loose XP YP l.row.toRowW d [] (fun f vs => PySem.call f vs) := by
  refine Att.attach_call hn hdf fun w s₀ s₁ mg mb fa o pm cd doc a vs ns G Y ho hd hcd hmg hobj hints hlen hg => ?_
  have KX := hY w _ Y
  obtain ⟨fd, hb, hF⟩ := F w mg fa _ KX G.T.g hmg
  exact law_call KX G.T.g G.T.b G.T.builtins G.T.nolimit hg hobj hints (Nat.le_trans hlen hn2) hr hF hb (fun H hO hS => hsp w H a ns hlen hO hS) fun H e s' => hCX w H s₁ e s'
end L2

/- THE LAST THEOREM (shape; LID, My.* are yours):
   My.Adr: a structure of the addresses that your layer names (classes, functions); My.Txt K t: a structure (Prop) of the equations over K;
   My.txt_mk : {K} {implicit addresses ..} (e1 : nsIn K mainGlobals "law" = some (some (.ref f))) (e2 : K.lookup f = some ⟨oc, od, .func (fnOf "law" "law" params body scope dV kV doc pm an cdv ct), sl⟩) (e3 : codeIn K cdv "law" = true) .. : ∃ t, My.Txt K t

set_option maxRecDepth 100000 in
set_option maxHeartbeats 0 in
theorem PySem.Challenge.cw_LID_holds : PySem.Challenge.rw_LID.Holds := by
  w_on; o_law; k_head; (case hw => w_witness2)
  k_fill
  refine L2.walk_of (l := PySem.Challenge.rw_LID) (n := 63) (k := 40) (x := "script") (CX := fun w => ..) (sp := fun _ => My.sp_law) rfl (by decide) rfl ⟨rfl, by decide, by decide⟩ (fun w h Y => PySem.W.kIn_of Y) ?F ?S ?C
  case F =>
    intro w mg fa h KX G hmg
    have T : ∃ t, My.Txt (L2.KOf KX) t := by
      dsimp only [L2.KOf]                          -- K must stand as «<heap const> w.params» for k_is
      refine' My.txt_mk ?e1 ?e2 ?e3 ..
      (case e1 => PySem.W.k_is)                    -- in the order: a name -> its address -> its object -> its parts
      (case e2 => PySem.W.k_is)
      ..
    obtain ⟨t, T⟩ := T
    have e0 := hmg.symm.trans (PySem.W.mg_of KX G T.law)
    cases e0                                       -- fa is the law's own address
    exact ⟨_, fun s u => .of_eq rfl, fun base kb nb => My.law_fn T kb nb⟩     -- if «.of_eq rfl» comes too early: refine' ⟨_, ?b, fun base kb nb => My.law_fn T kb nb⟩; exact fun s u => .of_eq rfl
  case S => exact fun w H a ns hl hO hS => ..
  case C => exact ..
(the tactic k_is has no namespace: write k_is) -/

/-! SHORT WORDS over the layer: a def of the text, its body, what a loop and a test want. -/
namespace L2
open PySem PySem.Spec PyProof.Rows

/-! ### the text by places -/
/-- the j-th statement of a class's body -/
def inClass (s : Stmt) (j : Nat) : Stmt := match s with
  | .ClassDef _ _ _ body _ _ _ _ _ _ _ => body.getD j (.Pass ⟨0, 0, 0, 0⟩)
  | _ => .Pass ⟨0, 0, 0, 0⟩
def defArgs (s : Stmt) : Arguments := match s with
  | .FunctionDef _ a _ _ _ _ _ _ _ _ => a
  | _ => { posonlyargs := [], args := [], vararg := none, kwonlyargs := [], kw_defaults := [], kwarg := none, defaults := [] }
def defBody (s : Stmt) : List Stmt := match s with
  | .FunctionDef _ _ b _ _ _ _ _ _ _ => b
  | _ => []
def defScope (s : Stmt) : Scope := match s with
  | .FunctionDef _ _ _ _ _ _ sc _ _ _ => sc
  | _ => { kind := .function, names := [], isGenerator := false, isCoroutine := false }

/-! ### no exception leaves a def -/
abbrev CX0 : CXT := fun _ _ _ _ _ _ => False
abbrev E0 : XK := fun _ _ _ => False
theorem pass0 {X : Cx} : Passes CX0 X E0 := fun _ _ _ _ _ _ _ h => h.elim

/-! ### a def (or method) of the text as it stands behind the top -/
structure Fun (K : PySem.W.Frag) (x qual : Str) (st : Stmt) (f : Addr) (fd : FuncData) : Prop where
  ex : ∃ (oc : Value) (od : Option Addr) (kV doc pm : Value) (an : Option Addr) (cdv ct : Value) (osl : Array (Option Value)),
    fd = PySem.W.fnOf x qual (defArgs st) (defBody st) (defScope st) .none kV doc pm an cdv ct ∧ K.lookup f = some ⟨oc, od, .func fd, osl⟩ ∧ PySem.W.codeIn K cdv qual = true
  kp : PySem.W.keepIn K (.ref f) = true
section
variable {P : Program} {w : World} {K : PySem.W.Frag} {mg : Str → Option Value} {base : Heap}
/-- THE RULE for a def: its body as a term of rules, and the reading of that term -/
theorem Fun.ok {x qual : Str} {st : Stmt} {f : Addr} {fd : FuncData} {N ps : List Str} {k : Nat} {sp : Sp} (F : Fun K x qual st f fd) (S : FnScope N ps (defScope st)) (len : ∀ vs H Q E, sp vs H Q E → vs.length = ps.length)
    (hbody : ∀ (cdv : Value) (A : Around) (outer : List Env) (s : Shared) (H : Hp) (vs : List V) (Q : VK) (E : XK), Room k (A.deeper (envOfC qual (defScope st) s.heap.objs.size f cdv)) → sp vs H Q E →
      ∃ t, PSs (cxOf CX0 P w K mg base N qual (defScope st) f cdv A outer s H E).nox (defBody st) t ∧ t { nx := fun _ H' => Q .non H', rt := Q } (start N vs) H) : FnOk P w K mg base CX0 (k + 1) f fd ps sp := by
  obtain ⟨oc, od, kV, doc, pm, an, cdv, ct, osl, rfl, lk, hcd⟩ := F.ex
  refine fn_of lk hcd S len fun A outer s H vs Q E hr hsp => ?_
  obtain ⟨t, h, q⟩ := hbody cdv A outer s H vs Q E hr hsp
  exact ⟨t, h.nox, q⟩
/-- how its arguments bind (no defaults): h is «fun _ _ _ _ _ _ us hl => match us, hl with | [_, _], _ => rfl», one _ a parameter -/
theorem Fun.binds {x qual : Str} {st : Stmt} {f : Addr} {fd : FuncData} {ps : List Str} (F : Fun K x qual st f fd)
    (h : ∀ (kV doc pm : Value) (an : Option Addr) (cdv ct : Value) (us : List Value), us.length = ps.length → bindArgs (PySem.W.fnOf x qual (defArgs st) (defBody st) (defScope st) .none kV doc pm an cdv ct) ⟨us, []⟩ = pure (ps.zip us)) : Binds K fd ps [] := by
  obtain ⟨oc, od, kV, doc, pm, an, cdv, ct, osl, rfl, lk, hcd⟩ := F.ex
  exact .all (h kV doc pm an cdv ct)
theorem fun_mk {x qual : Str} {st : Stmt} {f : Addr} {oc : Value} {od an : Option Addr} {osl : Array (Option Value)} {kV doc pm cdv ct : Value} (l : K.lookup f = some ⟨oc, od, .func (PySem.W.fnOf x qual (defArgs st) (defBody st) (defScope st) .none kV doc pm an cdv ct), osl⟩)
    (c : PySem.W.codeIn K cdv qual = true) (k : PySem.W.keepIn K (.ref f) = true) : Fun K x qual st f (PySem.W.fnOf x qual (defArgs st) (defBody st) (defScope st) .none kV doc pm an cdv ct) := ⟨⟨oc, od, kV, doc, pm, an, cdv, ct, osl, rfl, l, c⟩, k⟩
end
theorem hu_of {A : Around} {k : Nat} (hr : Room k A) : A.units + 1 < cLine := Nat.lt_of_le_of_lt (Nat.add_le_add_left (by decide : 1 ≤ 64) _) hr.units
/-! ### expressions in short: the name that stands in the i-th slot -/
section
variable {X : Cx}
theorem pv (i : Nat) {x : Str} {pos : Pos} (hN : X.N[i]? = some x := by rfl) (hv : Vis X.env.scope x := by first | exact Or.inl rfl | exact Or.inr (Or.inl rfl) | exact Or.inr (Or.inr rfl)) (hd : (x == ("__debug__" : Str)) = false := by decide)
    (hcd : (x == ("__classdict__" : Str)) = false := by decide) : PE X (.Name x pos) (tVar i) := pe_var hN hv hd hcd
end

/-! ### tests -/
theorem iteF {A B : Prop} (h : B) : if false = true then A else B := by
  rw [if_neg Bool.false_ne_true]
  exact h
theorem iteT {A B : Prop} (h : A) : if true = true then A else B := by
  rw [if_pos rfl]
  exact h
theorem ite2 {c A B : Prop} [Decidable c] (h1 : c → A) (h2 : ¬ c → B) : if c then A else B := by
  by_cases h : c
  · rw [if_pos h]
    exact h1 h
  · rw [if_neg h]
    exact h2 h
theorem iteNS {c A B : Prop} [Decidable c] (hc : c) (h : B) : if (!decide c) = true then A else B := by
  rw [decide_eq_true hc]
  exact iteF h

/-! ### heaps -/
/-- all that was tracked is as it was -/
def Same (H H' : Hp) : Prop := ∀ b o, H b = some o → H' b = some o
theorem Same.refl (H : Hp) : Same H H := fun _ _ h => h
theorem Same.trans {H H1 H2 : Hp} (a : Same H H1) (b : Same H1 H2) : Same H H2 := fun c o h => b c o (a c o h)
theorem Same.free {H H' : Hp} (e : Same H H') {l : Addr} (h : H' l = Option.none) : H l = Option.none := by
  cases q : H l with
  | none => rfl
  | some o =>
    rw [e l o q] at h
    cases h
theorem Same.seq {K : PySem.W.Frag} {H H' : Hp} {a : Addr} {xs : List V} (e : Same H H') (h : SqL K H a xs) : SqL K H' a xs := by
  rcases h with (h | ⟨o, h⟩) | h
  · exact .inl (.inl (e _ _ h))
  · exact .inl (.inr ⟨o, e _ _ h⟩)
  · exact .inr h

/-! ### a dict's pairs: keys that differ -/
section
variable {κ : Type} [DecidableEq κ]
end
end L2


section
set_option Elab.async false
set_option linter.all false
set_option maxRecDepth 100000
set_option maxHeartbeats 4000000
/-! COMPREHENSIONS, and more calls and comparisons, over the hand layer -/
namespace L2
open PySem PySem.Spec PyProof.Rows

/-! ### a list comprehension of one clause: its turns -/
section
variable {prog : Program} {w : World} {A : Around} {R : Result → Shared → Prop} {s : Shared}
abbrev FX : Value → Shared → Prop := fun _ _ => False
theorem compLoop_go {elt target iter : Expr} {ifs : List Expr} {scope : Scope} {pos : Pos} {it acc : Value} {env : Env} (I : Nat → Shared → Prop)
    (turn : ∀ n s, I n s → wpAny (model prog w) A (pyNext it) (fun r s₁ => match r with
      | none => R (.ok .next) s₁
      | some v => wpAny (model prog w) A (letOwnedTupleGo target it v) (fun _ s₂ => wpAny (model prog w) A (assign target env v) (fun _ s₃ =>
          wpAny (model prog w) A (forIn ifs true fun c r => if r = true then do let ok ← isTrue c env (eval c env); pure (ForInStep.yield ok) else pure (ForInStep.yield r)) (fun ok s₄ =>
            if ok = true then wpAny (model prog w) A (eval elt env) (fun x s₅ =>
              wpAny (model prog w) A (call (.builtin "list.append") [acc, x]) (fun _ s₆ => ∃ m, m < n ∧ I m s₆) FX s₅) FX s₄
            else ∃ m, m < n ∧ I m s₄) FX s₃) FX s₂) FX s₁) FX s)
    (n : Nat) (h : I n s) :
    codeAny (model prog w) A (.compLoop (.ListComp elt [⟨target, iter, ifs, 0⟩] scope pos) 0 it acc env) R s := by
  refine codeAny_loop rfl I (fun n s hI => ?_) n h
  show wpAny _ A ((compTurn (.ListComp elt [⟨target, iter, ifs, 0⟩] scope pos) 0 it acc env).onRaise (fun x => do noteFrame x env; theTreesLotGoes x)) _ _ s
  refine wpAny_noted ?_
  rw [compTurn_list]
  refine wpAny_bind (wpAny_standAt (wpAny_bind (wpAny_mono (turn n s hI) (fun r s₁ h₁ => ?_) fun _ _ f => f.elim)))
  cases r with
  | none => exact wpAny_pure h₁
  | some v =>
    refine wpAny_bind (wpAny_mono h₁ (fun _ s₂ h₂ => wpAny_bind (wpAny_mono h₂ (fun _ s₃ h₃ => wpAny_bind (wpAny_mono h₃ (fun ok s₄ h₄ => ?_) fun _ _ f => f.elim)) fun _ _ f => f.elim)) fun _ _ f => f.elim)
    cases ok with
    | false => exact wpAny_pure ⟨rfl, h₄⟩
    | true =>
      exact wpAny_bind (wpAny_bind (wpAny_mono h₄ (fun x s₅ h₅ => wpAny_bind (wpAny_mono h₅ (fun _ s₆ h₆ => wpAny_pure (wpAny_pure ⟨rfl, h₆⟩)) fun _ _ f => f.elim)) fun _ _ f => f.elim))
end

/-! ### the block's context -/
def Cx.blk (X : Cx) (scope : Scope) (cl : List (Str × Addr)) (C : Addr) (NB : List Str) (s : Shared) (H : Hp) (fp : List Addr) (pins : List (Addr × Obj)) : Cx :=
  { X with N := NB, s₀ := s, H₀ := H, env := compEnvC scope cl C X.env, outer := X.stack, stack := X.stack, ex := fp, fn := fun x => scope.names.lookup x == some NameKind.local, pn := X.pn ++ pins, xe := FX }

def AllC (e : Env) : List (Str × Addr) → Prop
  | [] => True
  | p :: r => e.cells.lookup p.1 = some p.2 ∧ AllC e r
theorem AllC.get {e : Env} : ∀ {cl : List (Str × Addr)} {x : Str} {c : Addr}, AllC e cl → cl.lookup x = some c → e.cells.lookup x = some c
  | [], _, _, _, h => by simp at h
  | p :: r, x, c, ⟨h1, h2⟩, h => by
    rw [List.lookup_cons] at h
    cases q : x == p.1 with
    | true =>
      rw [q] at h
      have e1 : x = p.1 := beq_iff_eq.mp q
      have e2 : p.2 = c := Option.some.inj h
      rw [e1, ← e2]; exact h1
    | false =>
      rw [q] at h
      exact AllC.get h2 h

def FreeOk (X : Cx) (scope : Scope) (cl : List (Str × Addr)) : List (Option Nat) → List Str → Prop
  | [], _ => True
  | none :: r, _ :: n => FreeOk X scope cl r n
  | some i :: r, x :: n => (X.N[i]? = some x ∧ (X.env.kindOf x = some .cell ∨ X.env.kindOf x = some .free) ∧ ((relabel scope X.env).names.lookup x = some .cell ∨ (relabel scope X.env).names.lookup x = some .free) ∧ (cl.lookup x).isSome = true) ∧ FreeOk X scope cl r n
  | _ :: _, [] => False
theorem FreeOk.get {X : Cx} {scope : Scope} {cl : List (Str × Addr)} : ∀ {ix : List (Option Nat)} {NB : List Str}, FreeOk X scope cl ix NB → ∀ (j i : Nat) (x : Str), ix[j]? = some (some i) → NB[j]? = some x →
    X.N[i]? = some x ∧ (X.env.kindOf x = some .cell ∨ X.env.kindOf x = some .free) ∧ ((relabel scope X.env).names.lookup x = some .cell ∨ (relabel scope X.env).names.lookup x = some .free) ∧ (cl.lookup x).isSome = true
  | [], _, _, j, i, x, h, _ => by simp at h
  | none :: r, y :: n, h, 0, i, x, h1, h2 => by simp at h1
  | none :: r, y :: n, h, j + 1, i, x, h1, h2 => FreeOk.get (ix := r) (NB := n) h j i x (by simpa using h1) (by simpa using h2)
  | some i' :: r, y :: n, h, 0, i, x, h1, h2 => by
    simp at h1 h2
    subst h1 h2
    exact h.1
  | some i' :: r, y :: n, h, j + 1, i, x, h1, h2 => FreeOk.get (ix := r) (NB := n) h.2 j i x (by simpa using h1) (by simpa using h2)
  | none :: r, [], h, _, _, _, _, _ => False.elim h
  | some _ :: r, [], h, _, _, _, _, _ => False.elim h
/-- what a comprehension's scope must have. NB: its names (targets and free names); ix: for a free name its slot outside -/
structure CmpScope (X : Cx) (scope : Scope) (cl : List (Str × Addr)) (NB : List Str) (ix : List (Option Nat)) : Prop where
  clos : closureFor scope X.env = pure cl
  kind : scope.kind = .function
  nocell : ∀ y ∈ scope.names, y.2 ≠ .cell
  names : ∀ y ∈ scope.names, y.2 = .local → scope.names.lookup y.1 = some .local
  cells : AllC X.env cl
  dis : cl.all (fun p => !(scope.names.lookup p.1 == some NameKind.local)) = true
  has : (relabel scope X.env).names.all (fun y => !(y.2 == .cell || y.2 == .free) || (cl.lookup y.1).isSome) = true
  len : ix.length = NB.length
  free : FreeOk X scope cl ix NB

/-- the block's names at its entry -/
def blkSt (ix : List (Option Nat)) (σ : St) : St := ix.map fun o => o.bind fun i => (σ[i]?).join

theorem lookup_mem {β : Type} : ∀ {l : List (Str × β)} {x : Str} {k : β}, l.lookup x = some k → (x, k) ∈ l
  | [], _, _, h => by simp at h
  | p :: r, x, k, h => by
    rw [List.lookup_cons] at h
    cases q : x == p.1 with
    | true =>
      rw [q] at h
      have e1 : x = p.1 := beq_iff_eq.mp q
      have e2 : p.2 = k := Option.some.inj h
      rw [e1, ← e2]; exact List.mem_cons_self
    | false =>
      rw [q] at h
      exact List.mem_cons_of_mem _ (lookup_mem h)

section
variable {X : Cx} {pins : List (Addr × Obj)} {σ : St} {H : Hp} {s : Shared}

theorem Inv.blk {scope : Scope} {cl : List (Str × Addr)} {NB : List Str} {ix : List (Option Nat)} {fp : List Addr} {h1 : Heap} {t : Nat} {m : Str → Option Value} {o : Obj}
    (S : CmpScope X scope cl NB ix) (I : Inv X pins σ H s) (hfp : ∀ b ∈ fp, FpOk X pins H b) (hob : ∀ b ∈ fp, ∃ o, s.heap.get? b = some o ∧ ∀ v, o.data ≠ .cell v)
    (hns : h1.Ns s.heap.objs.size m) (sb : Heap.SameBut s.heap.objs.size (s.heap.push o) h1) :
    Inv (X.blk scope cl s.heap.objs.size NB s H fp pins) [] (blkSt ix σ) H { s with heap := h1, toks := t } := by
  have kept : ∀ b u, s.heap.get? b = some u → h1.get? b = some u := fun b u e =>
    sb.extBut b u (Nat.ne_of_lt (Heap.lt_size e)) (Heap.get?_push_of_some _ e)
  have cellOf : ∀ x c, cl.lookup x = some c → X.env.cells.lookup x = some c := fun x c e => S.cells.get e
  refine ⟨⟨I.ok.mod, S.kind, I.ok.glob, I.ok.blt, Nat.le_refl _, fun x y c e1 e2 => I.ok.inj x y c (cellOf x c e1) (cellOf y c e2), fun x hx => ?_, fun x c hf e => ?_, I.ok.hd, I.ok.frames, .inl rfl, fun b hb => ⟨?_, fun x c e => ?_⟩, I.bs, Nat.le_trans I.ok.bsz I.sz, fun b ob e hb => ?_, fun b hb hz => ?_, I.stack, I.stkFree⟩,
    rfl, I.bare, Un.kept kept, ⟨m, hns, fun i x v e1 e2 e3 => ?_⟩, fun x c e => ?_, I.hok.fresh (Nat.le_refl _), fun x c e => I.freeC x c (cellOf x c e), fun p hp => ?_, I.hok.kept kept, by unfold blkSt; rw [List.length_map]; exact S.len⟩
  · -- has
    have hx' : (relabel scope X.env).names.lookup x = some .cell ∨ (relabel scope X.env).names.lookup x = some .free := hx
    have key : ∀ k : NameKind, (k == .cell || k == .free) = true → (relabel scope X.env).names.lookup x = some k → ∃ c, cl.lookup x = some c := fun k hk e => by
      have q := List.all_eq_true.mp S.has (x, k) (lookup_mem e)
      have q' : (!(k == .cell || k == .free) || (cl.lookup x).isSome) = true := q
      rw [hk] at q'
      exact Option.isSome_iff_exists.mp (by simpa using q')
    rcases hx' with z | z
    · exact key _ rfl z
    · exact key _ rfl z
  · -- cab
    have q := List.all_eq_true.mp S.dis (x, c) (lookup_mem e)
    have hf' : (scope.names.lookup x == some NameKind.local) = true := hf
    have q' : (!(scope.names.lookup x == some NameKind.local)) = true := q
    rw [hf'] at q'
    cases q'
  · -- b ≠ C
    obtain ⟨o', e, _⟩ := hob b hb
    exact Nat.ne_of_lt (Heap.lt_size e)
  · exact (hfp b hb).2.2.2.2.1 x c (cellOf x c e)
  · -- noex
    rcases (hfp b hb).2.2.2.1 with z | z
    · exact I.ok.noex b ob e z
    · exact absurd (Nat.lt_of_lt_of_le (Heap.lt_size e) (Nat.le_trans I.ok.bsz z)) (Nat.lt_irrefl _)
  · -- exfs
    rcases List.mem_cons.mp (I.stkSub b hz) with z | z
    · exact (hfp b hb).2.1 z
    · exact (hfp b hb).2.2.1 z
  · -- loc
    have e2' : (blkSt ix σ)[i]? = some (some v) := e2
    unfold blkSt at e2'
    rw [List.getElem?_map] at e2'
    cases q : ix[i]? with
    | none => rw [q] at e2'; cases e2'
    | some oi =>
      rw [q] at e2'
      cases oi with
      | none => cases e2'
      | some j =>
        have e4 : (σ[j]?).join = some v := Option.some.inj e2'
        have e5 : σ[j]? = some (some v) := by
          cases z : σ[j]? with
          | none => rw [z] at e4; cases e4
          | some y => rw [z] at e4; have : y = some v := e4; rw [this]
        obtain ⟨hN, hk, hk', hc⟩ := S.free.get i j x q e1
        obtain ⟨m0, hn0, hl0⟩ := I.loc
        have hv : Vis X.env.scope x := .inr hk
        obtain ⟨u, r, l⟩ := hl0 j x v hN e5 hv
        refine ⟨u, r, .inr ⟨hk', ?_⟩⟩
        obtain ⟨c, hc⟩ := Option.isSome_iff_exists.mp hc
        refine ⟨c, hc, ?_⟩
        have hc' := cellOf x c hc
        rcases l with ⟨k, _⟩ | ⟨_, c2, ec, oc, hoc, hd⟩
        · rcases hk with z | z <;> (rw [z] at k; cases k)
        · rw [hc'] at ec
          cases ec
          exact ⟨oc, kept _ _ hoc, hd⟩
  · obtain ⟨v, oc, hoc, hd⟩ := I.cell x c (cellOf x c e)
    exact ⟨v, oc, kept _ _ hoc, hd⟩
  · have hp' : p ∈ X.pn ++ pins := by
      have : p ∈ (X.pn ++ pins) ++ [] := hp
      simpa using this
    obtain ⟨e, n, ne, nf, d⟩ := I.pin p hp'
    refine ⟨kept _ _ e, n, Nat.ne_of_lt (Heap.lt_size e), fun z => ?_, d⟩
    rcases List.mem_cons.mp (I.stkSub p.1 z) with q | q
    · exact ne q
    · exact nf q

/-- behind the block -/
theorem Inv.unblk {scope : Scope} {cl : List (Str × Addr)} {C : Addr} {NB : List Str} {fp : List Addr} {pins' : List (Addr × Obj)} {σ' : St} {H' : Hp} {s' : Shared} (I : Inv X pins σ H s) (hfp : ∀ b ∈ fp, FpOk X pins H b)
    (I' : Inv (X.blk scope cl C NB s H fp pins) pins' σ' H' s') : Inv X pins σ H' s' :=
  I.call' I'.os I'.base I'.hok I'.bare fun b hb => ⟨(hfp b hb).2.2.2.1, (hfp b hb).2.1, (hfp b hb).2.2.2.2.1, (hfp b hb).2.2.2.2.2⟩
theorem Inv.letgo {C : Addr} {h' : Heap} (I : Inv X pins σ H s) (hC : ∃ s1 : Shared, C = s1.heap.objs.size ∧ Inv X pins σ H s1 ∨ True) (hn : H C = none) (h0 : X.s₀.heap.objs.size ≤ C) (hL : C ≠ X.env.locals) (hc : ∀ x c, X.env.cells.lookup x = some c → c ≠ C) (hp : ∀ p ∈ X.pn ++ pins, p.1 ≠ C)
    (sb : Heap.SameBut C s.heap h') : Inv X pins σ H { s with heap := h' } :=
  I.turned (t' := s.toks) (fun b o hb e => (sb.2 b hb).trans e) hn hL (.inr h0) hc hp
end

/-! ### [e for t in xs if c] -/
/-- W: the invariant by the turn, a measure, the block's names, the items so far -/
def tComp (wi : TI) (ix : List (Option Nat)) (g : TG) (tc : TT) (te : TE) : TE := fun σ H Q => wi σ H fun J H1 => ∀ D, H1 D = none → ∃ W : Nat → Nat → St → List V → Hp → Prop,
  (∃ m, W 0 m (blkSt ix σ) [] (upd H1 D (.lst []))) ∧ ∀ i m σ' ys H, W i m σ' ys H → H D = some (.lst ys) ∧
    ((J.stop i H ∧ Q (.ref D) H) ∨ (J.go i H ∧ ∃ N : St → List V → Hp → Prop, (∀ σ2 ys2 H2, N σ2 ys2 H2 → ∃ m', m' < m ∧ W (i + 1) m' σ2 ys2 H2) ∧ ∀ x H', J.yld i H x H' → g x σ' H' fun σ2 H2 => tc σ2 H2 fun b H3 =>
      if b = true then te σ2 H3 fun y H4 => H4 D = some (.lst ys) ∧ ys.length < sizeLine ∧ N σ2 (ys ++ [y]) (upd H4 D (.lst (ys ++ [y])))
      else N σ2 ys H3))
/-- the tests of a clause: none, or one -/
def PCs (X : Cx) (ifs : List Expr) (t : TT) : Prop :=
  ∀ (pins : List (Addr × Obj)) (s : Shared) (σ : St) (H : Hp) (Q : Bool → Hp → Prop), Inv X pins σ H s → t σ H Q →
    wpAny (model X.prog X.w) X.A (forIn ifs true fun c r => if r = true then do let ok ← isTrue c X.env (eval c X.env); pure (ForInStep.yield ok) else pure (ForInStep.yield r)) (TP X pins σ Q) X.xe s
def tNoTest : TT := fun _ H Q => Q true H
theorem pcs_nil {X : Cx} : PCs X [] tNoTest := fun pins s σ H Q I h => wpAny_tests_nil ⟨H, I, h⟩
/-- the block from its iterator on; RR: what is wanted behind it -/
theorem comp_blk {X : Cx} {elt target iter : Expr} {ifs : List Expr} {scope : Scope} {cl : List (Str × Addr)} {pos : Pos} {NB : List Str} {ix : List (Option Nat)} {g : TG} {tc : TT} {te : TE} {pins : List (Addr × Obj)} {σ : St} {H2 : Hp} {s2 : Shared}
    {it : Addr} {fp : List Addr} {tn : Nat → Heap → Prop} {J : It} {Q : VK} {RR : Value → Addr → Result → Shared → Prop} {E : Value → Shared → Prop}
    (hc : X.calm = true) (S : CmpScope X scope cl NB ix)
    (hg : ∀ C s H fp pins, PG (X.blk scope cl C NB s H fp pins) target g) (ht : ∀ C s H fp pins, PCs (X.blk scope cl C NB s H fp pins) ifs tc) (he : ∀ C s H fp pins, PE (X.blk scope cl C NB s H fp pins) elt te)
    (I2 : Inv X pins σ H2 s2) (T : Turn X.prog X.w X.K target J fp it tn) (st2 : tn 0 s2.heap) (f2 : ∀ b ∈ fp, FpOk X pins H2 b)
    (hr : ∀ D, H2 D = none → ∃ W : Nat → Nat → St → List V → Hp → Prop,
      (∃ m, W 0 m (blkSt ix σ) [] (upd H2 D (.lst []))) ∧ ∀ i m σ' ys H, W i m σ' ys H → H D = some (.lst ys) ∧
        ((J.stop i H ∧ Q (.ref D) H) ∨ (J.go i H ∧ ∃ N : St → List V → Hp → Prop, (∀ σ2 ys2 H2, N σ2 ys2 H2 → ∃ m', m' < m ∧ W (i + 1) m' σ2 ys2 H2) ∧ ∀ x H', J.yld i H x H' → g x σ' H' fun σ2 H2 => tc σ2 H2 fun b H3 =>
          if b = true then te σ2 H3 fun y H4 => H4 D = some (.lst ys) ∧ ys.length < sizeLine ∧ N σ2 (ys ++ [y]) (upd H4 D (.lst (ys ++ [y])))
          else N σ2 ys H3)))
    (hRR : ∀ D C H' s' m, Inv X pins σ H' s' → s'.heap.Ns C m → H' C = none → X.s₀.heap.objs.size ≤ C → C ≠ X.env.locals → (∀ x c, X.env.cells.lookup x = some c → c ≠ C) → (∀ p ∈ X.pn ++ pins, p.1 ≠ C) → Q (.ref D) H' → RR (.ref D) C (.ok .next) s') :
    wpAny (model X.prog X.w) X.A (newList []) (fun acc s₃ => wpAny (model X.prog X.w) X.A (newFunctionEnv scope X.env.globals cl [] X.env.qual none .none (some X.env)) (fun cenv s₄ =>
      codeAny (model X.prog X.w) X.A (.compStart (.ListComp elt [⟨target, iter, ifs, 0⟩] scope pos) 0 (.ref it) acc { cenv with scope := relabel scope X.env }) (RR acc cenv.locals) s₄) E s₃) E s2 := by
  refine wpAny_newObj_type (wpAny_newFunctionEnv S.nocell (by intro y hy; simp at hy) (fun h₁ hns₁ hsb₁ => ?_) S.kind)
  dsimp only at hns₁ hsb₁ ⊢
  have hD : H2 s2.heap.objs.size = none := I2.fresh
  have I3 : Inv X pins σ (upd H2 s2.heap.objs.size (.lst [])) { s2 with heap := s2.heap.push { cls := .type "list", dict := none, data := .seq ([] : List Value).toArray }, toks := s2.toks } :=
    I2.lnew (ys := []) (its := []) .nil (Nat.zero_le _)
  generalize hs3 : ({ s2 with heap := s2.heap.push { cls := .type "list", dict := none, data := .seq ([] : List Value).toArray }, toks := s2.toks } : Shared) = s3 at I3
  have eh : s3.heap = s2.heap.push { cls := .type "list", dict := none, data := .seq ([] : List Value).toArray } := by rw [← hs3]
  have f3 : ∀ b ∈ fp, FpOk X pins (upd H2 s2.heap.objs.size (.lst [])) b := fun b hb => by
    obtain ⟨o, e, _⟩ := T.obj _ _ st2 b hb
    exact ⟨by rw [upd_ne (Nat.ne_of_lt (Heap.lt_size e))]; exact (f2 b hb).1, (f2 b hb).2⟩
  have old3 : ∀ b o, s2.heap.get? b = some o → s3.heap.get? b = some o := fun b o e => by rw [eh]; exact Heap.get?_push_of_some _ e
  have st3 : tn 0 s3.heap := T.keep _ _ _ st2 fun b _ o e => old3 b o e
  rw [← eh] at hns₁ hsb₁ ⊢
  have I4 := Inv.blk (t := s2.toks + ([] : List (Str × Value)).length) S I3 f3 (fun b hb => T.obj _ _ st3 b hb) hns₁ hsb₁
  have e4 : ({ s3 with heap := h₁, toks := s2.toks + ([] : List (Str × Value)).length } : Shared) = { s2 with heap := h₁, toks := s2.toks + ([] : List (Str × Value)).length } := by rw [← hs3]
  rw [e4] at I4
  have st4 : tn 0 h₁ := T.keep _ _ _ st3 fun b _ o e => hsb₁.extBut b o (Nat.ne_of_lt (Heap.lt_size e)) (Heap.get?_push_of_some _ e)
  obtain ⟨W, ⟨m0, w0⟩, turn⟩ := hr _ hD
  have stat : ∀ {H' : Hp}, (∀ b ∈ fp, H' b = none) → ∀ b ∈ fp, FpOk (X.blk scope cl s3.heap.objs.size NB s3 (upd H2 s2.heap.objs.size (.lst [])) fp pins) [] H' b := fun hn b hb => by
    obtain ⟨o, e, _⟩ := T.obj _ _ st3 b hb
    refine ⟨hn b hb, Nat.ne_of_lt (Heap.lt_size e), fun z => ?_, .inl hb, fun x c q => (f3 b hb).2.2.2.2.1 x c (S.cells.get q), fun p hp => (f3 b hb).2.2.2.2.2 p ?_⟩
    · rcases List.mem_cons.mp (I3.stkSub b z) with q | q
      · exact (f3 b hb).2.1 q
      · exact (f3 b hb).2.2.1 q
    · have : p ∈ (X.pn ++ pins) ++ [] := hp
      simpa using this
  have loop : codeAny (model X.prog X.w) X.A (.compLoop (.ListComp elt [⟨target, iter, ifs, 0⟩] scope pos) 0 (.ref it) (.ref s2.heap.objs.size) (compEnvC scope cl s3.heap.objs.size X.env))
      (RR (.ref s2.heap.objs.size) s3.heap.objs.size) { s2 with heap := h₁, toks := s2.toks + ([] : List (Str × Value)).length } := by
    refine compLoop_go (fun n s' => ∃ i σ' ys H', Inv (X.blk scope cl s3.heap.objs.size NB s3 (upd H2 s2.heap.objs.size (.lst [])) fp pins) [] σ' H' s' ∧ tn i s'.heap ∧ (∀ b ∈ fp, H' b = none) ∧ W i n σ' ys H') ?_ m0 ⟨0, _, [], _, I4, st4, fun b hb => (f3 b hb).1, w0⟩
    rintro n s5 ⟨i, σ5, ys, H5, I5, st5, fr5, w5⟩
    obtain ⟨hD5, (⟨stop, qn⟩ | ⟨go, N, hN, step⟩)⟩ := turn i n σ5 ys H5 w5
    · refine thn (T.done (X.blk scope cl s3.heap.objs.size NB s3 (upd H2 s2.heap.objs.size (.lst [])) fp pins) rfl rfl rfl hc i [] s5 σ5 H5 FX I5 (stat fr5) st5 stop) fun r s6 ⟨hr6, I6⟩ => ?_
      subst hr6
      obtain ⟨m6, hn6, _⟩ := I6.loc
      refine hRR _ _ H5 s6 m6 (I3.unblk f3 I6) hn6 I6.free I3.sz (fun z => ?_) (fun x c e z => ?_) (fun p hp z => ?_) qn
      · have := I3.lt
        rw [← z] at this
        exact absurd this (Nat.lt_irrefl _)
      · obtain ⟨v, oc, hoc, _⟩ := I3.cell x c e
        have := Heap.lt_size hoc
        rw [z] at this
        exact absurd this (Nat.lt_irrefl _)
      · have := Heap.lt_size (I3.pin p hp).1
        rw [z] at this
        exact absurd this (Nat.lt_irrefl _)
    · refine thn (T.item (X.blk scope cl s3.heap.objs.size NB s3 (upd H2 s2.heap.objs.size (.lst [])) fp pins) rfl rfl rfl hc i [] s5 σ5 H5 FX I5 (stat fr5) st5 go) fun r s6 ⟨u, hr6, h6⟩ => ?_
      subst hr6
      refine thn h6 fun _ s7 ⟨x, H7, I7, r7, y7, st7, fr7⟩ => ?_
      have I7' := I7.pinned (stat fr7) (T.obj _ _ st7)
      refine thn (hg _ _ _ _ _ _ s7 σ5 H7 x u _ I7' r7 (step x H7 y7)) fun _ s8 ⟨σ8, H8, I8, q8⟩ => ?_
      refine thn (ht _ _ _ _ _ _ s8 σ8 H8 _ I8 q8) fun b s9 ⟨H9, I9, q9⟩ => ?_
      have fin : ∀ {s' : Shared} {H' : Hp}, Inv (X.blk scope cl s3.heap.objs.size NB s3 (upd H2 s2.heap.objs.size (.lst [])) fp pins) ([] ++ pinsAt fp s7.heap) σ8 H' s' → tn (i + 1) s'.heap ∧ ∀ b ∈ fp, H' b = none := fun {s' H'} I' => by
        refine ⟨T.keep _ _ _ st7 fun b hb o e => (I'.pin (b, o) (List.mem_append_right _ (List.mem_append_right _ (mem_pinsAt hb e)))).1, fun b hb => ?_⟩
        obtain ⟨o, e, d⟩ := T.obj _ _ st7 b hb
        exact (I'.pin (b, o) (List.mem_append_right _ (List.mem_append_right _ (mem_pinsAt hb e)))).2.1
      cases b with
      | false =>
        obtain ⟨m', hm, w9⟩ := hN σ8 ys H9 (show N σ8 ys H9 from q9)
        obtain ⟨st9, fr9⟩ := fin I9
        exact ⟨m', hm, i + 1, σ8, ys, H9, I9.unpinned, st9, fr9, w9⟩
      | true =>
        refine thn (he _ _ _ _ _ _ s9 σ8 H9 _ I9 q9) fun y s10 ⟨vy, H10, I10, r10, hD10, hl10, n10⟩ => ?_
        obtain ⟨m', hm, w10⟩ := hN _ _ _ n10
        refine thn (mt_append _ s10 σ8 H10 (.ref s2.heap.objs.size) [vy] (.ref s2.heap.objs.size) [y] (fun v H' => v = .non ∧ H' = upd H10 s2.heap.objs.size (.lst (ys ++ [vy]))) I10 rfl (.cons r10 .nil) ⟨_, ys, vy, rfl, rfl, hD10, hl10, rfl, rfl⟩) fun _ s11 ⟨_, H11, I11, _, _, e11⟩ => ?_
        subst e11
        obtain ⟨st11, fr11⟩ := fin I11
        exact ⟨m', hm, i + 1, σ8, ys ++ [vy], _, I11.unpinned, st11, fr11, w10⟩
  exact codeAny_compStart_list loop (T.self _ 0 _ _ _ st4 loop)

section
variable {X : Cx} {elt target iter : Expr} {ifs : List Expr} {scope : Scope} {cl : List (Str × Addr)} {pos spos py : Pos} {NB : List Str} {ix : List (Option Nat)} {wi : TI} {g : TG} {tc : TT} {te : TE}
theorem pe_comp (hc : X.calm = true) (S : CmpScope X scope cl NB ix) (hi : PI X target iter wi)
    (hg : ∀ C s H fp pins, PG (X.blk scope cl C NB s H fp pins) target g) (ht : ∀ C s H fp pins, PCs (X.blk scope cl C NB s H fp pins) ifs tc) (he : ∀ C s H fp pins, PE (X.blk scope cl C NB s H fp pins) elt te)
    (hs : ∀ x, foldedSetIterable iter X.env x = pure x := by intro _; rfl) : PE X (.ListComp elt [⟨target, iter, ifs, 0⟩] scope pos) (tComp wi ix g tc te) := by
  intro pins s σ H Q I h
  rw [eval_ListComp]
  refine wpAny_comprehension_free (use := none) rfl hs S.clos S.kind S.names (thn (hi pins s σ H _ I h) fun xv s1 h1 => thn h1 fun itv s2 h2 => ?_)
  obtain ⟨it, fp, tn, J, H2, e, I2, T, st2, f2, hr⟩ := h2
  subst e
  refine comp_blk (Q := Q) (RR := fun acc C => compPost (model X.prog X.w) X.A X.xe none (EP X pins σ Q) acc C) hc S hg ht he I2 T st2 f2 hr ?_
  intro D C H' s' m I' hn hC h0 hL hcl hp q
  exact ⟨m, hn, fun h' sb => ⟨.ref D, H', I'.turned (t' := s'.toks) (fun b o hb e => (sb.2 b hb).trans e) hC (Ne.symm (Ne.symm hL)) (.inr h0) hcl hp, rfl, q⟩⟩
/-- name = [e for ..], on one row -/
def tSetComp (i : Nat) (t : TE) : TS := fun D σ H => t σ H fun x H1 => D.nx (σ.set i (some x)) H1
theorem ps_setComp {i : Nat} {y : Str} (hc : X.calm = true) (hN : X.N.Nodup) (hi' : X.N[i]? = some y) (hy : Loc X.env.scope y) (S : CmpScope X scope cl NB ix) (hi : PI X target iter wi)
    (hg : ∀ C s H fp pins, PG (X.blk scope cl C NB s H fp pins) target g) (ht : ∀ C s H fp pins, PCs (X.blk scope cl C NB s H fp pins) ifs tc) (he : ∀ C s H fp pins, PE (X.blk scope cl C NB s H fp pins) elt te)
    (hsw : swapsWith (.ListComp elt [⟨target, iter, ifs, 0⟩] scope pos) (some (.Name y py)) spos.line X.env = pure true := by rfl)
    (hs : ∀ x, foldedSetIterable iter X.env x = pure x := by intro _; rfl) (hf : X.fn y = true ∨ X.env.scope.names.lookup y = some .local := by first | exact .inl rfl | exact .inr rfl | assumption) :
    PS X (.Assign [.Name y py] (.ListComp elt [⟨target, iter, ifs, 0⟩] scope pos) spos) (tSetComp i (tComp wi ix g tc te)) := by
  intro pins s σ H D I h
  rw [exec_Assign_Name_used _ _ _ _ hsw]
  refine wpAny_bind (wpAny_standAt (wpAny_bind ?_))
  show wpAny _ X.A (do let _ ← comprehension (.ListComp elt [⟨target, iter, ifs, 0⟩] scope pos) scope X.env _ (newList []) false (eval iter X.env) (some (assign (.Name y py) X.env))) _ _ s
  refine wpAny_bind (wpAny_mono (wpAny_comprehension_free (use := some (assign (.Name y py) X.env)) (Q := fun _ s' => SP X pins D .next s') rfl hs S.clos S.kind S.names
    (thn (hi pins s σ H _ I h) fun xv s1 h1 => thn h1 fun itv s2 h2 => ?_)) (fun _ s' hq => wpAny_pure (wpAny_pure hq)) fun _ _ e => e)
  obtain ⟨it, fp, tn, J, H2, e, I2, T, st2, f2, hr⟩ := h2
  subst e
  refine comp_blk (Q := fun x H1 => D.nx (σ.set i (some x)) H1) (RR := fun acc C => compPost (model X.prog X.w) X.A X.xe (some (assign (.Name y py) X.env)) (fun _ s' => SP X pins D .next s') acc C) hc S hg ht he I2 T st2 f2 hr ?_
  intro Dd C H' s' m I' hn hC h0 hL hcl hp q
  show wpAny _ X.A (assign (.Name y py) X.env (.ref Dd)) _ _ _
  refine wpAny_assign_Name (store_ok2 (v := .ref Dd) I' hN hi' hy rfl (fun s2 I2 hsb => ?_) hf)
  obtain ⟨a, sb2, ha⟩ := hsb
  have hCa : C ≠ a := by
    rcases ha with z | z
    · rw [z]; exact hL
    · exact Ne.symm (hcl _ _ z)
  refine ⟨m, hn.sameBut sb2 hCa, fun h' sb => ?_⟩
  exact ⟨_, H', I2.turned (t' := s2.toks) (fun b o hb e => (sb.2 b hb).trans e) hC hL (.inr h0) hcl hp, q⟩
end
/-- over a list that the block leaves as it is -/
theorem comp_list {K : PySem.W.Frag} {a : Addr} {xs : List V} {g : TG} {tc : TT} {te : TE} {σ0 : St} {Hs : Hp} {D : Addr} {Q : VK} (Pv : Nat → St → List V → Hp → Prop) (h0 : Pv 0 σ0 [] (upd Hs D (.lst [])))
    (hl : ∀ i σ ys H, i ≤ xs.length → Pv i σ ys H → SqL K H a xs ∧ H D = some (.lst ys))
    (hs : ∀ i x σ ys H, xs[i]? = some x → Pv i σ ys H → g x σ H fun σ2 H2 => tc σ2 H2 fun b H3 =>
      if b = true then te σ2 H3 fun y H4 => H4 D = some (.lst ys) ∧ ys.length < sizeLine ∧ Pv (i + 1) σ2 (ys ++ [y]) (upd H4 D (.lst (ys ++ [y]))) else Pv (i + 1) σ2 ys H3)
    (hd : ∀ σ ys H, Pv xs.length σ ys H → Q (.ref D) H) :
    ∃ W : Nat → Nat → St → List V → Hp → Prop, (∃ m, W 0 m σ0 [] (upd Hs D (.lst []))) ∧ ∀ i m σ' ys H, W i m σ' ys H → H D = some (.lst ys) ∧
      (((Itl K a).stop i H ∧ Q (.ref D) H) ∨ ((Itl K a).go i H ∧ ∃ N : St → List V → Hp → Prop, (∀ σ2 ys2 H2, N σ2 ys2 H2 → ∃ m', m' < m ∧ W (i + 1) m' σ2 ys2 H2) ∧ ∀ x H', (Itl K a).yld i H x H' → g x σ' H' fun σ2 H2 => tc σ2 H2 fun b H3 =>
        if b = true then te σ2 H3 fun y H4 => H4 D = some (.lst ys) ∧ ys.length < sizeLine ∧ N σ2 (ys ++ [y]) (upd H4 D (.lst (ys ++ [y]))) else N σ2 ys H3)) := by
  refine ⟨fun i m σ ys H => i ≤ xs.length ∧ m = xs.length - i ∧ Pv i σ ys H, ⟨_, Nat.zero_le _, rfl, h0⟩, ?_⟩
  rintro i m σ' ys H ⟨hi, rfl, hp⟩
  obtain ⟨hq, hD⟩ := hl i σ' ys H hi hp
  refine ⟨hD, ?_⟩
  by_cases e : i < xs.length
  · refine .inr ⟨⟨xs, xs[i], hq, List.getElem?_eq_getElem e⟩, Pv (i + 1), fun σ2 ys2 H2 n => ⟨xs.length - (i + 1), by omega, e, rfl, n⟩, ?_⟩
    rintro x H' ⟨rfl, hx⟩
    exact hs i x σ' ys H' (hx xs hq) hp
  · have ei : i = xs.length := by omega
    subst ei
    exact .inl ⟨⟨xs, hq, Nat.le_refl _⟩, hd σ' ys H hp⟩
end L2

end
section
set_option Elab.async false
set_option linter.all false
set_option maxRecDepth 100000
set_option maxHeartbeats 4000000
namespace L2
open PySem PySem.Spec PyProof.Rows

/-! ### isinstance(x, T), T a built-in type -/
def kitB (a b : String) : Option Bool := if (Value.type a == Value.type b) = true then some true else if PySem.W.kitMeta b = true then (PySem.fastBuiltinMro a).map (·.contains (Value.type b)) else none
theorem kit_of {K : PySem.W.Frag} {a b : String} {v : Bool} (h : kitB a b = some v) : PySem.W.kitOne K (.type a) (.type b) = some v := h
section
variable {X : Cx}
theorem call_isi : CallR X (.builtin "isinstance") (fun xs H Q => ∃ x T t b, xs = [x, .ty T] ∧ TyOf X.K H x t ∧ PySem.W.kitOne X.K t (.type T) = some b ∧ Q (.bl b) H) := by
  intro pins s σ H xs us Q I r h
  obtain ⟨x, T, t, b, rfl, ty, e, q⟩ := h
  obtain ⟨u, w', rfl, ru, rw⟩ := vals2 r
  obtain rfl : w' = Value.type T := rw
  exact isinst_ok I ru ty e fun tk => ⟨.bl b, H, I.tok tk, rfl, q⟩

/-! ### dict(d) -/
end

/-! ### ==: what two values compare to (n: how deep) -/
inductive EqH (K : PySem.W.Frag) (H : Hp) : Nat → V → V → Bool → Prop
  | flat {n : Nat} {x y : V} (fx : flatV x = true) (fy : flatV y = true) : EqH K H n x y (eqV x y)
  | same {n : Nat} (a : Addr) : EqH K H n (.ref a) (.ref a) true
  | lst {n : Nat} {a b : Addr} {xs ys : List V} {e : Nat → Bool} (ne : a ≠ b) (ha : SqL K H a xs) (hb : SqL K H b ys) (hl : xs.length = ys.length)
      (h : ∀ (j : Nat) x y, xs[j]? = some x → ys[j]? = some y → EqH K H n x y (e j)) : EqH K H (n + 1) (.ref a) (.ref b) ((List.range xs.length).all e)
  | lstN {n : Nat} {a b : Addr} {xs ys : List V} (ne : a ≠ b) (ha : SqL K H a xs) (hb : SqL K H b ys) (hl : xs.length ≠ ys.length) : EqH K H n (.ref a) (.ref b) false
  | tup {n : Nat} {a b : Addr} {xs ys : List V} {e : Nat → Bool} (ne : a ≠ b) (ha : SqT K H a xs) (hb : SqT K H b ys)
      (h : ∀ (j : Nat) x y, xs[j]? = some x → ys[j]? = some y → EqH K H n x y (e j)) : EqH K H (n + 1) (.ref a) (.ref b) ((List.range (min xs.length ys.length)).all e && xs.length == ys.length)
section
variable {X : Cx} {pins : List (Addr × Obj)} {σ : St} {H : Hp} {s : Shared}
theorem vals_at {xs : List V} {its : List Value} (r : Vals xs its) {j : Nat} (h : j < its.length) : ∃ x, xs[j]? = some x ∧ RelV x its[j] := by
  have hx : j < xs.length := by rw [r.length]; exact h
  obtain ⟨u, e, q⟩ := r.get (List.getElem?_eq_getElem hx)
  refine ⟨_, List.getElem?_eq_getElem hx, ?_⟩
  rw [List.getElem?_eq_getElem h] at e
  cases e
  exact q
theorem EqH.at (I : Inv X pins σ H s) {n : Nat} {x y : V} {r : Bool} (h : EqH X.K H n x y r) : ∀ (A : Around) (u v : Value), A.units + n < cLine → RelV x u → RelV y v → SeqAt.EqAt A s u v r := by
  induction h with
  | flat fx fy => intro A u v _ ru rv; exact eqAt_V ru rv fx fy
  | same a =>
    intro A u v _ ru rv
    obtain rfl : u = Value.ref a := ru
    obtain rfl : v = Value.ref a := rv
    exact SeqAt.EqAt.same _
  | @lst n a b xs ys e ne ha hb hl h ih =>
    intro A u v hu ru rv
    obtain rfl : u = Value.ref a := ru
    obtain rfl : v = Value.ref b := rv
    obtain ⟨ia, ra, pa, _⟩ := I.list ha
    obtain ⟨ib, rb, pb, _⟩ := I.list hb
    have l1 := ra.length
    have l2 := rb.length
    have q := SeqAt.RcAt.lists (A := A) (e := e) pa.isList pb.isList (by simp; omega) (by omega) fun j h1 h2 => by
      have h1' : j < ia.length := by simpa using h1
      have h2' : j < ib.length := by simpa using h2
      obtain ⟨x, ex, rx⟩ := vals_at ra h1'
      obtain ⟨y, ey, ry⟩ := vals_at rb h2'
      have := ih j x y ex ey A.in1 ia[j] ib[j] (by show A.units + 1 + n < cLine; omega) rx ry
      simpa using this
    have e1 : ia.toArray.size = xs.length := by simp; omega
    rw [e1] at q
    exact SeqAt.EqAt.of_refs ne q
  | @lstN n a b xs ys ne ha hb hl =>
    intro A u v hu ru rv
    obtain rfl : u = Value.ref a := ru
    obtain rfl : v = Value.ref b := rv
    obtain ⟨ia, ra, pa, _⟩ := I.list ha
    obtain ⟨ib, rb, pb, _⟩ := I.list hb
    have l1 := ra.length
    have l2 := rb.length
    exact SeqAt.EqAt.of_refs ne (SeqAt.RcAt.lists_lengths pa.isList pb.isList (by simp; omega) (by omega))
  | @tup n a b xs ys e ne ha hb h ih =>
    intro A u v hu ru rv
    obtain rfl : u = Value.ref a := ru
    obtain rfl : v = Value.ref b := rv
    obtain ⟨ia, ra, pa, _⟩ := I.tuple ha
    obtain ⟨ib, rb, pb, _⟩ := I.tuple hb
    have l1 := ra.length
    have l2 := rb.length
    have q := SeqAt.RcAt.tuples (A := A) (e := e) (show s.heap.IsTuple a ia.toArray from pa) (show s.heap.IsTuple b ib.toArray from pb) (by omega) fun j h1 h2 => by
      have h1' : j < ia.length := by simpa using h1
      have h2' : j < ib.length := by simpa using h2
      obtain ⟨x, ex, rx⟩ := vals_at ra h1'
      obtain ⟨y, ey, ry⟩ := vals_at rb h2'
      have := ih j x y ex ey A.in1 ia[j] ib[j] (by show A.units + 1 + n < cLine; omega) rx ry
      simpa using this
    have e1 : ia.toArray.size = xs.length := by simp; omega
    have e2 : ib.toArray.size = ys.length := by simp; omega
    rw [e1, e2] at q
    exact SeqAt.EqAt.of_refs ne q
end
section
variable {X : Cx}
/-- == and != of two lists of one length; of other lengths; of tuples -/
def rEqL (K : PySem.W.Frag) (neg : Bool) : R2 := fun x y H Q => ∃ a b xs ys e, x = .ref a ∧ y = .ref b ∧ SqL K H a xs ∧ SqL K H b ys ∧ xs.length = ys.length ∧ (∀ (j : Nat) x y, xs[j]? = some x → ys[j]? = some y → EqH K H 60 x y (e j)) ∧
  Q (.bl (if neg then !(List.range xs.length).all e else (List.range xs.length).all e)) H
def rEqLN (K : PySem.W.Frag) (neg : Bool) : R2 := fun x y H Q => ∃ a b xs ys, x = .ref a ∧ y = .ref b ∧ SqL K H a xs ∧ SqL K H b ys ∧ xs.length ≠ ys.length ∧ Q (.bl neg) H
def rEqT (K : PySem.W.Frag) (neg : Bool) : R2 := fun x y H Q => ∃ a b xs ys e, x = .ref a ∧ y = .ref b ∧ SqT K H a xs ∧ SqT K H b ys ∧ (∀ (j : Nat) x y, xs[j]? = some x → ys[j]? = some y → EqH K H 60 x y (e j)) ∧
  Q (.bl (if neg then !((List.range (min xs.length ys.length)).all e && xs.length == ys.length) else ((List.range (min xs.length ys.length)).all e && xs.length == ys.length))) H
/-! ### == of two dicts with the same pairs -/
end
end L2

end
section
set_option Elab.async false
set_option linter.all false
set_option maxRecDepth 100000
set_option maxHeartbeats 4000000
namespace L2
open PySem PySem.Spec PyProof.Rows

/-! ### a def, a method, a class as its callers see it -/
structure Df (P : Program) (w : World) (K : PySem.W.Frag) (mg : Str → Option Value) (base : Heap) (CX : CXT) (k : Nat) (x : Str) (ps : List Str) (sp : Sp) : Prop where
  ex : ∃ (f : Addr) (fd : FuncData), mg x = some (.ref f) ∧ PySem.W.keepIn K (.ref f) = true ∧ Binds K fd ps [] ∧ FnOk P w K mg base CX k f fd ps sp
structure Md (P : Program) (w : World) (K : PySem.W.Frag) (mg : Str → Option Value) (base : Heap) (CX : CXT) (C : Addr) (k : Nat) (m : Str) (ps : List Str) (sp : Sp) : Prop where
  cl : Cls K C
  ex : ∃ (f : Addr) (fd : FuncData), Meth K C m f ∧ Binds K fd ps [] ∧ FnOk P w K mg base CX k f fd ps sp
structure Cd (P : Program) (w : World) (K : PySem.W.Frag) (mg : Str → Option Value) (base : Heap) (CX : CXT) (C : Addr) (k : Nat) (x : Str) (ps : List Str) (sp : Sp) : Prop where
  ex : ∃ (f : Addr) (fd : FuncData), mg x = some (.ref C) ∧ Mk K C f ∧ Binds K fd ps [] ∧ FnOk P w K mg base CX k f fd ps sp
section
variable {X : Cx} {CX : CXT} {k : Nat} {C : Addr} {ps : List Str} {sp : Sp} {E : XK} {x m : Str} {p pos apos : Pos} {e o : Expr} {es : List Expr} {ta : TE} {t : TA}
theorem pe_fn (D : Df X.prog X.w X.K X.mg X.base CX k x ps sp) (hr : Room k X.A) (hx : Passes CX X E) (ha : PA X (e :: es) t) (hg : Gl X x := by rfl) (hdb : (x == ("__debug__" : Str)) = false := by decide)
    (he : starEach (e :: es) X.env = (false, eval e X.env) :: starEach es X.env := by rfl) (hpl : (backTo pos (starEach es X.env)).any (·.1) = false := by rfl) : PE X (.Call (.Name x p) (e :: es) [] pos) (tCall sp [] E t) := by
  obtain ⟨f, fd, hm, hk, hb, F⟩ := D.ex
  exact pe_call F hr hg hm hk hb .nil hx ha hdb he hpl
end

/-! ### all that was tracked is as it was, but what stands at ex -/
def Kp (ex : List Addr) (H H' : Hp) : Prop := ∀ b o, H b = some o → b ∉ ex → H' b = some o
theorem Kp.refl (ex : List Addr) (H : Hp) : Kp ex H H := fun _ _ h _ => h
theorem Kp.trans {ex : List Addr} {H H1 H2 : Hp} (a : Kp ex H H1) (b : Kp ex H1 H2) : Kp ex H H2 := fun c o h n => b c o (a c o h n) n
theorem Kp.mono {ex ex' : List Addr} {H H' : Hp} (a : Kp ex H H') (h : ∀ b ∈ ex, b ∈ ex') : Kp ex' H H' := fun c o e n => a c o e fun z => n (h c z)
theorem Kp.new {ex : List Addr} {H : Hp} {p : Addr} {o : HO} (h : H p = none) : Kp ex H (upd H p o) := fun b u e _ => by rw [upd_ne (ne_of_none e h)]; exact e
theorem Kp.put {ex : List Addr} {H : Hp} {p : Addr} {o : HO} (h : p ∈ ex) : Kp ex H (upd H p o) := fun b u e n => by
  have nb : b ≠ p := fun z => n (by rw [z]; exact h)
  rw [upd_ne nb]; exact e
theorem Kp.same {H H' : Hp} (a : Kp [] H H') : Same H H' := fun b o e => a b o e (by simp)
theorem Kp.free {H H' : Hp} (e : Kp [] H H') {l : Addr} (h : H' l = none) : H l = none := e.same.free h
theorem Kp.seq {K : PySem.W.Frag} {ex : List Addr} {H H' : Hp} {a : Addr} {xs : List V} (e : Kp ex H H') (n : a ∉ ex) (h : SqL K H a xs) : SqL K H' a xs := by
  rcases h with (h | ⟨o, h⟩) | h
  · exact .inl (.inl (e _ _ h n))
  · exact .inl (.inr ⟨o, e _ _ h n⟩)
  · exact .inr h
theorem Kp.get {ex : List Addr} {H H' : Hp} (e : Kp ex H H') {a : Addr} {o : HO} (h : H a = some o) (n : a ∉ ex) : H' a = some o := e a o h n

/-! ### the script: known, never written -/
def Scr (K : PySem.W.Frag) (H : Hp) (a : Addr) (ns : List Int) : Prop := (∃ o, H a = some (.frz o (.lst (ns.map V.int)))) ∨
  ∃ (o : Obj) (its : Array Value) (n : Nat), K.lookup a = some o ∧ o.cls = .type "list" ∧ o.dict = none ∧ o.data = .seq its n ∧ its.size ≤ sizeLine ∧ Vals (ns.map V.int) its.toList
theorem Scr.sq {K : PySem.W.Frag} {H : Hp} {a : Addr} {ns : List Int} (h : Scr K H a ns) : SqL K H a (ns.map V.int) := by
  rcases h with h | h
  · exact .inl (.inr h)
  · exact .inr h
theorem Scr.of {K : PySem.W.Frag} {H : Hp} {a : Addr} {ns : List Int} (hO : Only H) (h : SqL K H a (ns.map V.int)) : Scr K H a ns := by
  rcases h with (h | h) | h
  · rcases hO a with z | ⟨o, xs, z⟩
    · rw [h] at z; cases z
    · rw [h] at z; cases z
  · exact .inl h
  · exact .inr h
def noFrz : Option HO → Prop
  | some (.frz _ _) => False
  | _ => True
theorem Scr.keep {K : PySem.W.Frag} {H H' : Hp} {ex : List Addr} {a : Addr} {ns : List Int} (h : Scr K H a ns) (kp : Kp ex H H') (hex : ∀ b ∈ ex, noFrz (H b)) : Scr K H' a ns := by
  rcases h with ⟨o, h⟩ | h
  · exact .inl ⟨o, kp.get h fun z => by have := hex a z; rw [h] at this; exact this⟩
  · exact .inr h
theorem Scr.same {K : PySem.W.Frag} {H H' : Hp} {a : Addr} {ns : List Int} (h : Scr K H a ns) (kp : Kp [] H H') : Scr K H' a ns := h.keep kp (by simp)
/-! ### an item of a written list -/
/-- a heap is forgotten but for what is said of it -/
theorem abs {H : Hp} {P : Hp → Prop} (A : Hp → Prop) (ha : A H) (h : ∀ H', A H' → P H') : P H := h H ha
/-- an item of a list that was just written down -/
theorem pickR {K : PySem.W.Frag} {β : Type} (f : β → V) (ys : List β) {i : Int} {H : Hp} {Q : VK} {p : Addr} (hp : H p = none) (h0 : 0 ≤ i) (h1 : i < ys.length) (q : ∀ y H', ys[i.toNat]? = some y → Kp [] H H' → Q (f y) H') :
    rIxL K (.ref p) (.int i) (upd H p (.lst (ys.map f))) Q := by
  have h : i.toNat < ys.length := by omega
  have e : ((i.toNat : Nat) : Int) = i := by omega
  have hy : ys[i.toNat]? = some ys[i.toNat] := List.getElem?_eq_getElem h
  have := atI_nat (xs := ys.map f) (j := i.toNat) (v := f ys[i.toNat]) (by rw [List.getElem?_map, hy]; rfl)
  rw [e] at this
  exact ⟨p, _, i, _, rfl, rfl, SqL.of upd_same, this, q _ _ hy (Kp.new hp)⟩
theorem iteD {c A B : Prop} [Decidable c] (hc : c) (h : A) : if decide c = true then A else B := by
  rw [decide_eq_true hc]
  exact iteT h
theorem iteDN {c A B : Prop} [Decidable c] (hc : ¬ c) (h : B) : if decide c = true then A else B := by
  rw [decide_eq_false hc]
  exact iteF h
/-- an int that is stored is given a letter -/
theorem gsetI {n : Nat} {i : Int} {σ : St} {H : Hp} {k : St → Hp → Prop} (h : ∀ c, c = i → gName n (.int c) σ H k) : gName n (.int i) σ H k := h i rfl
theorem emod_pick (x m n : Int) (hm : 0 < m) (hn : 0 < n) : 0 ≤ x % m % n ∧ x % m % n < n := ⟨Int.emod_nonneg _ (by omega), Int.emod_lt_of_pos _ hn⟩
end L2

end
section
set_option Elab.async false
set_option linter.all false
set_option maxRecDepth 100000
set_option maxHeartbeats 4000000
/-! EXCEPTIONS of own classes over the hand layer: raised, passed on through frames and loops, caught -/
namespace L2
open PySem PySem.Spec PyProof.Rows

/-! ### the record of an exception that has a place: its class, its dict, where it flies -/
def Tr (h B : Heap) (e : Addr) (cls : Value) (dd : Option Addr) (fl : Value) : Prop :=
  ∃ (oe : Obj) (vs : Array Value) (T : Addr) (oT : Obj) (ts : Array Value), h.get? e = some oe ∧ oe.cls = cls ∧ oe.dict = dd ∧ oe.data = .fields vs ∧ vs[1]? = some (.ref T) ∧ B.get? T = none ∧ T ≠ e ∧ h.get? T = some oT ∧ oT.data = .fields ts ∧ ts[3]? = some fl
theorem dict_mapFields (o : Obj) (f : Array Value → Array Value) : (o.mapFields f).dict = o.dict := by
  obtain ⟨c, d, dt, sl⟩ := o
  cases dt <;> rfl
section
variable {M : Model} {A : Around} {E : Value → Shared → Prop} {s : Shared} {B : Heap} {env : Env} {outer l : List Env} {L e : Addr}
theorem up_of_ne {h h' : Heap} (k : ∀ b o, h.get? b = some o → (∀ vs, o.data ≠ .fields vs) → h'.get? b = some o) : h.UpToSlots h' := fun b o q n => ⟨o.slots, k b o q n⟩
/-- a place is laid at the head of the record -/
theorem entryD {oe : Obj} {vs : Array Value} {head : Value} {hadNext : Bool} {Q : Unit → Shared → Prop} (hfr : A.frames = some (env :: outer)) (hl : s.heap.FunFrames B (env :: outer)) (hf : env.frame = some L) (he : s.heap.get? e = some oe) (hkb : B.StaysIn s.heap)
    (hen : B.get? e = none) (hd : oe.data = .fields vs) (hsz : 1 < vs.size)
    (k : ∀ h', B.StaysIn h' → h'.FunFrames B (env :: outer) → Tr h' B e oe.cls oe.dict (rawInt L) → s.heap.UpToSlots h' → Q () { s with heap := h' }) :
    wpAny M A (do let a ← frameOf env; let pl ← entryPlaceOf L hadNext; let b ← EntryCells.newEntry head a .none (rawInt L) .none pl; setField (.ref e) 1 b) Q E s := by
  refine wpAny_bind (wpAny_frameOf_fun hfr hl hf fun g hg => wpAny_bind (wpAny_entryPlaceOf fun pl hp => ?_))
  have en : e ∉ (env :: outer).filterMap (·.frame) := fun z => by
    obtain ⟨_, o, ho, hn⟩ := hl.mem z
    rw [he] at ho
    cases ho
    exact hn vs hd
  have e1 : g.get? e = some oe := (hg.2.1 e en).trans he
  have k1 : B.StaysIn g := fun b o q => (hg.2.1 b fun z => by rw [(hl.mem z).1] at q; cases q).trans (hkb b o q)
  unfold EntryCells.newEntry newFields
  refine wpAny_bind (wpAny_newObj_type ?_ (hp.sizeOk5 _ _ _ _ _))
  generalize htb : ([head, Value.ref L, Value.none, rawInt L, Value.none] ++ (if pl.isEmpty then List.replicate 6 Value.none else pl)).toArray = tb
  have t3 : tb[3]? = some (rawInt L) := by
    rw [← htb]
    first | (simp; done) | (rcases hp with rfl | ⟨_, _, _, _, _, _, _, rfl⟩ <;> simp)
  have ne : g.objs.size ≠ e := Nat.ne_of_gt (Heap.lt_size e1)
  have d3 := Obj.data_mapFields hd (·.setIfInBounds 1 (Value.ref g.objs.size))
  refine wpAny_setField (Heap.get?_push_of_some _ e1) hd hsz ?_
  have kept : ∀ b o, b ≠ e → g.get? b = some o → ((g.push { cls := .type "traceback", dict := none, data := .fields tb }).update e (Obj.mapFields (·.setIfInBounds 1 (Value.ref g.objs.size)))).get? b = some o := fun b o nb q =>
    (Heap.get?_update_other _ _ (Ne.symm nb)).trans (Heap.get?_push_of_some _ q)
  have nrec : ∀ b o, s.heap.get? b = some o → (∀ ws, o.data ≠ .fields ws) → b ≠ e := fun b o q n z => by
    rw [z, he] at q
    cases q
    exact n vs hd
  have up : ∀ b o, s.heap.get? b = some o → (∀ ws, o.data ≠ .fields ws) → ∃ sl, ((g.push { cls := .type "traceback", dict := none, data := .fields tb }).update e (Obj.mapFields (·.setIfInBounds 1 (Value.ref g.objs.size)))).get? b = some { o with slots := sl } := fun b o q n => by
    obtain ⟨sl, z⟩ := hg.2.2 b o q
    exact ⟨sl, kept b _ (nrec b o q n) z⟩
  refine k _ (fun b o q => kept b o (fun z => by rw [z, hen] at q; cases q) (k1 b o q)) (hl.of_keeps fun b o q n => ?_) ?_ up
  · obtain ⟨sl, z⟩ := up b o q n
    exact ⟨_, z, rfl⟩
  · refine ⟨_, _, g.objs.size, _, tb, Heap.get?_update_self _ (Heap.get?_push_of_some _ e1) (Obj.isFreed_of_fields d3), Obj.cls_mapFields _ _, dict_mapFields _ _, d3, by simp [hsz], k1.fresh, ne, (Heap.get?_update_other _ _ (Ne.symm ne)).trans (Heap.get?_push_size g rfl), rfl, t3⟩
/-- where it flies is written -/
theorem flightD {cls fl : Value} {dd fr : Option Addr} {Q : Unit → Shared → Prop} (hkb : B.StaysIn s.heap) (hl : s.heap.FunFrames B l) (ht : Tr s.heap B e cls dd fl)
    (k : ∀ h', B.StaysIn h' → h'.FunFrames B l → Tr h' B e cls dd (fr.elim .none fun f => rawInt f) → s.heap.UpToSlots h' → Q () { s with heap := h' }) : wpAny M A (setFlight (.ref e) fr) Q E s := by
  obtain ⟨oe, vs, T, oT, ts, he, hc, hdd, hd, h1, hT0, nT, hT, dT, h3⟩ := ht
  have hsz : 3 < ts.size := (Array.getElem?_eq_some_iff.mp h3).1
  unfold setFlight
  refine wpAny_bind (wpAny_field he hd h1 ?_)
  rw [if_pos (show (Value.ref T != Value.none) = true by simp)]
  have oth : ∀ b, b ≠ T → (s.heap.update T (Obj.mapFields (·.setIfInBounds 3 (fr.elim Value.none fun f => rawInt f)))).get? b = s.heap.get? b := fun b nb => Heap.get?_update_other _ _ (Ne.symm nb)
  have nrec : ∀ b o, s.heap.get? b = some o → (∀ ws, o.data ≠ .fields ws) → b ≠ T := fun b o q n z => by
    rw [z, hT] at q
    cases q
    exact n ts dT
  refine wpAny_setField hT dT hsz (k _ (fun b o q => (oth b fun z => by rw [z, hT0] at q; cases q).trans (hkb b o q)) (hl.of_keeps fun b o q n => ⟨o, (oth b (nrec b o q n)).trans q, rfl⟩) ?_ (up_of_ne fun b o q n => (oth b (nrec b o q n)).trans q))
  have d3 := Obj.data_mapFields dT (·.setIfInBounds 3 (fr.elim Value.none fun f => rawInt f))
  exact ⟨oe, vs, T, _, _, (oth e (Ne.symm nT)).trans he, hc, hdd, hd, h1, hT0, nT, Heap.get?_update_self _ hT (Obj.isFreed_of_fields d3), d3, by simp [hsz]⟩
/-- the frame is noted: the record just made, one that comes from a callee, one that was noted here -/
theorem noteD {cls fl : Value} {dd : Option Addr} {Q : Unit → Shared → Prop} (hfr : A.frames = some (env :: outer)) (hf : env.frame = some L) (hkb : B.StaysIn s.heap) (hl : s.heap.FunFrames B (env :: outer)) (hen : B.get? e = none) (ht : Tr s.heap B e cls dd fl)
    (k : ∀ h', B.StaysIn h' → h'.FunFrames B (env :: outer) → Tr h' B e cls dd (rawInt L) → s.heap.UpToSlots h' → Q () { s with heap := h' }) : wpAny M A (noteFrame (.ref e) env) Q E s := by
  obtain ⟨oe, vs, T, oT, ts, he, hc, hdd, hd, h1, hT0, nT, hT, dT, h3⟩ := id ht
  unfold noteFrame
  simp only [hf]
  refine wpAny_bind (wpAny_field he hd h1 ?_)
  rw [if_pos (show (Value.ref T != Value.none) = true by simp)]
  refine wpAny_bind (wpAny_field hT dT h3 ?_)
  by_cases z : fl = rawInt L
  case neg =>
    rw [if_neg (show ¬ ((fl == rawInt L) = true) from fun y => z (beq_iff_eq.mp y))]
    have hsz : 3 < ts.size := (Array.getElem?_eq_some_iff.mp h3).1
    refine wpAny_bind (wpAny_setField hT dT hsz ?_)
    have oth : ∀ b, b ≠ T → (s.heap.update T (Obj.mapFields (·.setIfInBounds 3 Value.none))).get? b = s.heap.get? b := fun b nb => Heap.get?_update_other _ _ (Ne.symm nb)
    have nrec : ∀ b o, s.heap.get? b = some o → (∀ ws, o.data ≠ .fields ws) → b ≠ T := fun b o q n z => by
      rw [z, hT] at q
      cases q
      exact n ts dT
    have up1 : s.heap.UpToSlots (s.heap.update T (Obj.mapFields (·.setIfInBounds 3 Value.none))) := up_of_ne fun b o q n => (oth b (nrec b o q n)).trans q
    subst hc hdd
    exact entryD hfr (hl.of_keeps fun b o q n => ⟨o, (oth b (nrec b o q n)).trans q, rfl⟩) hf ((oth e (Ne.symm nT)).trans he) (fun b o q => (oth b fun z => by rw [z, hT0] at q; cases q).trans (hkb b o q)) hen hd (Array.getElem?_eq_some_iff.mp h1).1
      fun h' a b c d => k h' a b c (up1.trans d)
  case pos =>
    subst z
    rw [if_pos (show (rawInt L == rawInt L) = true by simp)]
    exact wpAny_pure (k s.heap hkb hl ht (.refl _))
theorem noteD0 {h : Heap} {cls : Value} {args : List Value} {Q : Unit → Shared → Prop} (hfr : A.frames = some (env :: outer)) (hf : env.frame = some L) (hkb : B.StaysIn h) (hl : h.FunFrames B (env :: outer)) (hx : Heap.MadeExcOf h s.heap e cls args)
    (k : ∀ h', B.StaysIn h' → h'.FunFrames B (env :: outer) → Tr h' B e cls none (rawInt L) → s.heap.UpToSlots h' → Q () { s with heap := h' }) : wpAny M A (noteFrame (.ref e) env) Q E s := by
  obtain ⟨t, he, _, _⟩ := hx.there
  have hen : B.get? e = none := by
    cases q : B.get? e with
    | none => rfl
    | some o => have := hkb e o q; rw [hx.new] at this; cases this
  unfold noteFrame
  simp only [hf]
  refine wpAny_bind (wpAny_field he rfl (x := .none) rfl ?_)
  rw [if_neg (by decide)]
  exact entryD hfr (hl.of_keeps fun b o q _ => ⟨o, hx.keeps b o q, rfl⟩) hf he (fun b o q => hx.keeps b o (hkb b o q)) hen rfl (by show 1 < 6; decide) k
end
end L2

end
section
set_option Elab.async false
set_option linter.all false
set_option maxRecDepth 100000
set_option maxHeartbeats 4000000
namespace L2
open PySem PySem.Spec PyProof.Rows

/-- the context of a def's body (no comprehension's block) -/
structure FnCx (X : Cx) : Prop where
  stk : X.stack = X.env :: X.outer
  fr : X.env.frame = some X.env.locals
  ex : X.ex = []
  fn : ∀ x, X.fn x = true
/-- B holds all that a body leans on, but the frames -/
structure Cov (X : Cx) (pins : List (Addr × Obj)) (H : Hp) (B : Heap) : Prop where
  c1 : ∀ b o, X.s₀.heap.get? b = some o → X.H₀ b = none → b ∉ X.fs → B.get? b = some o
  c2 : ∀ b, H b ≠ none → ∃ o, B.get? b = some o
  c3 : ∀ x c, X.env.cells.lookup x = some c → ∃ o, B.get? c = some o
  c4 : ∀ p ∈ X.pn ++ pins, B.get? p.1 = some p.2
  c5 : ∀ b o, X.s₀.heap.get? b = some o → b ∉ X.fs → ∃ o', B.get? b = some o'
section
variable {X : Cx} {pins : List (Addr × Obj)} {σ : St} {H : Hp} {s : Shared} {B h' : Heap}
theorem Inv.moved (fx : FnCx X) (I : Inv X pins σ H s) (C : Cov X pins H B) (k0 : B.StaysIn s.heap) (k1 : B.StaysIn h') (up : s.heap.UpToSlots h') {t : Nat} : Inv X pins σ H { s with heap := h', toks := t } := by
  have cellK : ∀ x c v, X.env.cells.lookup x = some c → s.heap.IsCell c v → h'.IsCell c v := fun x c v e ⟨o, ho, hd⟩ => by
    obtain ⟨o', hb⟩ := C.c3 x c e
    have := k0 c o' hb
    rw [ho] at this
    cases this
    exact ⟨o, k1 c _ hb, hd⟩
  have fsl : ∀ b o, s.heap.get? b = some o → b ∈ X.fs → ∃ sl, h'.get? b = some { o with slots := sl } := fun b o e hb => by
    obtain ⟨_, o2, ho2, hn⟩ := I.funs.mem hb
    rw [e] at ho2
    cases ho2
    exact up b o e hn
  refine ⟨I.ok, I.os, I.bare, ⟨fun b o e n hb hx => k1 b o (C.c1 b o e n hb), fun b o e n hb hx => ?_, I.base.free, fun b o e hx => ?_, I.base.tups, I.base.frzs, I.base.tbls⟩, ?_, fun x c e => ?_, I.free, I.freeC, fun p hp => ?_, fun a o e => ?_, I.len⟩
  · obtain ⟨sl, e1⟩ := I.base.slot b o e n hb hx
    obtain ⟨sl2, e2⟩ := fsl b _ e1 hb
    exact ⟨sl2, e2⟩
  · by_cases hb : b ∈ X.fs
    · obtain ⟨o1, e1⟩ := I.base.there b o e hx
      obtain ⟨sl2, e2⟩ := fsl b o1 e1 hb
      exact ⟨_, e2⟩
    · obtain ⟨o', z⟩ := C.c5 b o e hb
      exact ⟨o', k1 b o' z⟩
  · obtain ⟨m, hn, hl⟩ := I.loc
    refine ⟨m, up.ns hn, fun i x v e1 e2 e3 => ?_⟩
    obtain ⟨u, r, lk⟩ := hl i x v e1 e2 e3
    refine ⟨u, r, ?_⟩
    rcases lk with lk | ⟨k, c, e, z⟩
    · exact .inl lk
    · exact .inr ⟨k, c, e, cellK x c _ e z⟩
  · obtain ⟨v, z⟩ := I.cell x c e
    exact ⟨v, cellK x c v e z⟩
  · obtain ⟨e, n, ne, nf, d⟩ := I.pin p hp
    exact ⟨k1 _ _ (C.c4 p hp), n, ne, nf, d⟩
  · refine (I.hok a o e).stay (fun b u hb q => ?_) (fun _ q => q) fun _ _ q => q
    have hn : H b ≠ none := by
      rcases hb with z | z
      · rw [z, e]; simp
      · rw [z]; simp
    obtain ⟨o', z⟩ := C.c2 b hn
    have := k0 b o' z
    rw [q] at this
    cases this
    exact k1 b _ z
end
/-- the exception is noted, or flies, over this frame -/
structure XF (X : Cx) (pins : List (Addr × Obj)) (ea : Addr) (cls : Value) (fl : Value) (H : Hp) (s : Shared) (B : Heap) : Prop where
  cov : Cov X pins H B
  new : B.get? ea = none
  st : B.StaysIn s.heap
  fun_ : s.heap.FunFrames B X.stack
  tr : Tr s.heap B ea cls none fl
def XSt (X : Cx) (pins : List (Addr × Obj)) (ea : Addr) (cls : Value) (H : Hp) (s : Shared) : Prop :=
  (∃ B h args, Cov X pins H B ∧ Heap.MadeExcOf h s.heap ea cls args ∧ B.StaysIn h ∧ h.FunFrames B X.stack) ∨ ∃ B fl, XF X pins ea cls fl H s B ∧ (fl = fl ∨ fl = rawInt X.env.locals)
abbrev XKs := St → Value → Hp → Prop
def XP (X : Cx) (pins : List (Addr × Obj)) (xk : XKs) (e : Value) (s : Shared) : Prop := ∃ ea cls σ H, e = .ref ea ∧ Inv X pins σ H s ∧ XSt X pins ea cls H s ∧ xk σ cls H
section
variable {X : Cx} {pins : List (Addr × Obj)} {σ : St} {H : Hp} {s : Shared} {ea : Addr} {cls fl : Value} {A : Around} {E : Value → Shared → Prop} {B : Heap}
theorem XSt.note {Q : Unit → Shared → Prop} (fx : FnCx X) (I : Inv X pins σ H s) (S : XSt X pins ea cls H s) (hA : A.frames = some X.stack)
    (k : ∀ h' B, Inv X pins σ H { s with heap := h' } → XF X pins ea cls (rawInt X.env.locals) H { s with heap := h' } B → Q () { s with heap := h' }) : wpAny (model X.prog X.w) A (noteFrame (.ref ea) X.env) Q E s := by
  rw [fx.stk] at hA
  rcases S with ⟨B, h, args, C, hx, st, fu⟩ | ⟨B, fl, F, hfl⟩
  · rw [fx.stk] at fu
    have hen : B.get? ea = none := by
      cases q : B.get? ea with
      | none => rfl
      | some o => have := st ea o q; rw [hx.new] at this; cases this
    exact noteD0 hA fx.fr st fu hx fun h' a b c d => k h' B (I.moved (t := s.toks) fx C (fun b o q => hx.keeps b o (st b o q)) a d) ⟨C, hen, a, by rw [fx.stk]; exact b, c⟩
  · have fu := F.fun_
    rw [fx.stk] at fu
    exact noteD hA fx.fr F.st fu F.new F.tr fun h' a b c d => k h' B (I.moved (t := s.toks) fx F.cov F.st a d) ⟨F.cov, F.new, a, by rw [fx.stk]; exact b, c⟩
theorem XF.flight {fr : Option Addr} {Q : Unit → Shared → Prop} (fx : FnCx X) (I : Inv X pins σ H s) (F : XF X pins ea cls fl H s B)
    (k : ∀ h', Inv X pins σ H { s with heap := h' } → XF X pins ea cls (fr.elim .none fun f => rawInt f) H { s with heap := h' } B → Q () { s with heap := h' }) : wpAny (model X.prog X.w) A (setFlight (.ref ea) fr) Q E s :=
  flightD F.st F.fun_ F.tr fun h' a b c d => k h' (I.moved (t := s.toks) fx F.cov F.st a d) ⟨F.cov, F.new, a, b, c⟩
theorem XF.xst (F : XF X pins ea cls (rawInt X.env.locals) H s B) : XSt X pins ea cls H s := .inr ⟨B, _, F, .inr rfl⟩
theorem XP.unpinned {pl : List (Addr × Obj)} {xk : XKs} {e : Value} (h : XP X (pins ++ pl) xk e s) : XP X pins xk e s := by
  obtain ⟨ea, cls, σ, H, rfl, I, S, q⟩ := h
  have cv : ∀ {B : Heap}, Cov X (pins ++ pl) H B → Cov X pins H B := fun C => ⟨C.c1, C.c2, C.c3, fun p hp => C.c4 p (by
    rcases List.mem_append.mp hp with z | z
    · exact List.mem_append_left _ z
    · exact List.mem_append_right _ (List.mem_append_left _ z)), C.c5⟩
  refine ⟨ea, cls, σ, H, rfl, I.unpinned, ?_, q⟩
  rcases S with ⟨B, h, args, C, r⟩ | ⟨B, fl, F, z⟩
  · exact .inl ⟨B, h, args, cv C, r⟩
  · exact .inr ⟨B, fl, ⟨cv F.cov, F.new, F.st, F.fun_, F.tr⟩, z⟩
/-- it passes a loop of the same frame -/
theorem XP.passes {xk : XKs} (fx : FnCx X) (hA : X.A.frames = some X.stack) : PassesOwn (model X.prog X.w) X.A X.env (XP X pins xk) := by
  intro e s' h
  obtain ⟨ea, cls, σ, H, rfl, I, S, q⟩ := h
  refine XSt.note fx I S hA fun h' B I1 F1 => ?_
  unfold cameBackBy
  obtain ⟨oe, vs, T, oT, ts, he, hc, hdd, hd, h1, r⟩ := id F1.tr
  refine wpAny_bind (wpAny_field he hd h1 ?_)
  rw [if_neg (show ¬ ((Value.ref T == Value.none) = true) by simp)]
  rw [fx.fr]
  exact F1.flight fx I1 fun h2 I2 F2 => ⟨ea, cls, σ, H, rfl, I2, F2.xst, q⟩
end
/-- how an exception lies behind a call -/
def CX1 (P : Program) (w : World) : CXT := fun outer H s E e s' => ∃ ea cls H' B, e = .ref ea ∧ s'.os = s.os ∧ AllBare s'.gens ∧ Un (frs outer) [] H H' s.heap s'.heap ∧ HOk P w H' s'.heap ∧ B.get? ea = none ∧ B.StaysIn s'.heap ∧ s'.heap.FunFrames B outer ∧ Tr s'.heap B ea cls none .none ∧
  (∀ b o, s.heap.get? b = some o → H b = none → b ∉ frs outer → B.get? b = some o) ∧ (∀ b, H' b ≠ none → ∃ o, B.get? b = some o) ∧ (∀ b o, s.heap.get? b = some o → b ∉ frs outer → ∃ o', B.get? b = some o') ∧ E cls none H'
section
variable {X : Cx} {pins : List (Addr × Obj)} {σ : St} {H : Hp} {s s' : Shared} {xk : XKs}
theorem Inv.nofsL (I : Inv X pins σ H s) (fx : FnCx X) {b : Addr} (h1 : b ≠ X.env.locals) (h2 : b ∉ X.fs) : b ∉ frs X.stack := fun z => by
  rcases List.mem_cons.mp (I.stkSub b z) with q | q
  · exact h1 q
  · exact h2 q
/-- a callee's exception in the caller's body -/
theorem CX1.xp {E : XK} {e : Value} (fx : FnCx X) (I : Inv X pins σ H s) (h : CX1 X.prog X.w X.stack H s E e s') (hE : ∀ cls H', E cls none H' → xk σ cls H') : XP X pins xk e s' := by
  obtain ⟨ea, cls, H', B, rfl, os, bare, un, hok, new, st, fu, tr, d1, d2, d3, q⟩ := h
  have I' : Inv X pins σ H' s' := I.call' (ch := []) os un hok bare fun b hb => nomatch hb
  have neL : ∀ b o, X.s₀.heap.get? b = some o → b ≠ X.env.locals := fun b o z => Nat.ne_of_lt (Nat.lt_of_lt_of_le (Heap.lt_size z) I.ok.above)
  have nx : ∀ b : Addr, b ∉ X.ex := fun b => by rw [fx.ex]; simp
  refine ⟨ea, cls, σ, H', rfl, I', .inr ⟨B, .none, ⟨⟨fun b o z n hb => ?_, d2, fun x c z => ?_, fun p hp => ?_, fun b o z hb => ?_⟩, new, st, fu, tr⟩, .inl rfl⟩, hE cls H' q⟩
  · exact d1 b o (I.base.keep b o z n hb (nx b)) (I.base.free b o z n (nx b)) (I.nofsL fx (neL b o z) hb)
  · obtain ⟨v, o, ho, _⟩ := I.cell x c z
    refine ⟨o, d1 c o ho (I.freeC x c z) (I.nofsL fx (I.cne x c z) fun hb => ?_)⟩
    obtain ⟨_, o2, ho2, _⟩ := I.ok.funs.mem hb
    exact absurd (Nat.lt_of_lt_of_le (Heap.lt_size ho2) (I.ok.cab x c (fx.fn x) z)) (Nat.lt_irrefl _)
  · obtain ⟨z, n, ne, nf, _⟩ := I.pin p hp
    exact d1 _ _ z n (I.nofsL fx ne nf)
  · obtain ⟨o1, z1⟩ := I.base.there b o z (nx b)
    exact d3 b o1 z1 (I.nofsL fx (neL b o z) hb)
/-- it leaves the def -/
theorem XP.leaves {E : XK} {e : Value} (fx : FnCx X) (hA : X.A.frames = some X.stack) (hxk : ∀ σ cls H, xk σ cls H → E cls none H) (h : XP X pins xk e s') :
    wpAny (model X.prog X.w) X.A (leaving X.env e) (fun _ s'' => CX1 X.prog X.w X.outer X.H₀ X.s₀ E e s'') (fun e' s'' => CX1 X.prog X.w X.outer X.H₀ X.s₀ E e' s'') s' := by
  obtain ⟨ea, cls, σ, H, rfl, I, S, q⟩ := h
  unfold leaving
  refine wpAny_bind (XSt.note fx I S hA fun h1 B I1 F1 => F1.flight fx I1 fun h2 I2 F2 => ?_)
  have fu := F2.fun_
  rw [fx.stk] at fu
  have un := I2.base
  rw [fx.ex] at un
  exact ⟨ea, cls, H, B, rfl, I2.os, I2.bare, un, I2.hok, F2.new, F2.st, fu.2.2, F2.tr, fun b o z n hb => F2.cov.c1 b o z n hb, F2.cov.c2, fun b o z hb => F2.cov.c5 b o z hb, hxk σ cls H q⟩
end
/-! ### judgements with exceptions -/
abbrev TEx := XKs → St → Hp → VK → Prop
abbrev TX := Ends → XKs → St → Hp → Prop
def PEX (X : Cx) (e : Expr) (t : TEx) : Prop :=
  ∀ (pins : List (Addr × Obj)) (s : Shared) (σ : St) (H : Hp) (Q : VK) (xk : XKs), Inv X pins σ H s → t xk σ H Q → wpAny (model X.prog X.w) X.A (eval e X.env) (EP X pins σ Q) (XP X pins xk) s
def PSX (X : Cx) (st : Stmt) (t : TX) : Prop :=
  ∀ (pins : List (Addr × Obj)) (s : Shared) (σ : St) (H : Hp) (D : Ends) (xk : XKs), Inv X pins σ H s → t D xk σ H → wpAny (model X.prog X.w) X.A (exec st X.env) (SP X pins D) (XP X pins xk) s
def PSXs (X : Cx) (st : List Stmt) (t : TX) : Prop :=
  ∀ (pins : List (Addr × Obj)) (s : Shared) (σ : St) (H : Hp) (D : Ends) (xk : XKs), Inv X pins σ H s → t D xk σ H → wpAny (model X.prog X.w) X.A (execs st X.env) (SP X pins D) (XP X pins xk) s
section
variable {X : Cx} {st : Stmt} {rest : List Stmt} {e : Expr} {pos : Pos}
theorem EP.unwish {pins : List (Addr × Obj)} {σ : St} {Q : VK} {u : Value} {s : Shared} {E : Value → Shared → Prop} (h : EP (X.wish E) pins σ Q u s) : EP X pins σ Q u s := let ⟨v, H', I, r, q⟩ := h; ⟨v, H', I.unwish, r, q⟩
theorem psx_of {t : TS} (h : PS X.nox st t) : PSX X st (fun D _ => t D) := fun pins s σ H D xk I hw => wpAny_mono (h pins s σ H D (I.wish _) hw) (fun _ _ q => q.unwish) fun _ _ z => z.elim
theorem psxs_of {ss : List Stmt} {t : TS} (h : PSs X.nox ss t) : PSXs X ss (fun D _ => t D) := fun pins s σ H D xk I hw => wpAny_mono (h pins s σ H D (I.wish _) hw) (fun _ _ q => q.unwish) fun _ _ z => z.elim
def tSeqX (t u : TX) : TX := fun D xk σ H => t { D with nx := u D xk } xk σ H
theorem psxs_cons {t u : TX} (h1 : PSX X st t) (h2 : PSXs X rest u) : PSXs X (st :: rest) (tSeqX t u) := by
  intro pins s σ H D xk I h
  refine wpAny_execs_cons (thn (h1 pins s σ H { D with nx := u D xk } xk I h) fun f s1 q => ?_)
  cases f with
  | next =>
    obtain ⟨σ', H', I', q⟩ := q
    exact h2 pins s1 σ' H' D xk I' q
  | ret v => exact q
  | brk => exact q
  | cont => exact q
theorem psxs_one {t : TX} (h1 : PSX X st t) : PSXs X [st] t := by
  intro pins s σ H D xk I h
  refine wpAny_execs_cons (thn (h1 pins s σ H D xk I h) fun f s1 q => ?_)
  cases f with
  | next => exact wpAny_execs_nil q
  | ret v => exact q
  | brk => exact q
  | cont => exact q
theorem psx_expr {t : TEx} (he : PEX X e t) (hs : swapsWith e none pos.line X.env = pure false := by rfl) : PSX X (.Expr e pos) (fun D xk σ H => t xk σ H fun _ H1 => D.nx σ H1) := by
  intro pins s σ H D xk I h
  exact wpAny_Expr_any (thn (he pins s σ H _ xk I h) fun v s1 ⟨x, H1, I1, r1, q1⟩ => ⟨σ, H1, I1, q1⟩) I.quiet hs
theorem psx_if {c : Expr} {a b : List Stmt} {tc : TT} {t u : TX} (hc : PT X.nox c tc) (ha : PSXs X a t) (hb : PSXs X b u) : PSX X (.If c a b pos) (fun D xk σ H => tc σ H fun k H1 => if k = true then t D xk σ H1 else u D xk σ H1) := by
  intro pins s σ H D xk I h
  refine wpAny_If (wpAny_mono (hc pins s σ H _ (I.wish _) h) (fun k s1 ⟨H1, I1, q⟩ => ?_) fun _ _ z => z.elim)
  cases k with
  | true => exact ha pins s1 σ H1 D xk I1.unwish q
  | false => exact hb pins s1 σ H1 D xk I1.unwish q
end
/-! ### calls that may raise -/
def tCallX (sp : Sp) (t : TA) : TEx := fun xk σ H Q => t σ H fun vs H1 => sp (vs ++ []) H1 Q fun cls _ H2 => xk σ cls H2
section
variable {X : Cx} {k : Nat} {ps : List Str} {sp : Sp} {x : Str} {p pos : Pos} {e : Expr} {es : List Expr} {t : TA}
theorem run_fnX {pins : List (Addr × Obj)} {σ : St} {H : Hp} {s : Shared} {Q : VK} {us : List Value} {vs : List V} {f : Addr} {fd : FuncData} {xk : XKs} (F : FnOk X.prog X.w X.K X.mg X.base (CX1 X.prog X.w) k f fd ps sp) (hr : Room k X.A) (hb : Binds X.K fd ps []) (fx : FnCx X)
    (I : Inv X pins σ H s) (r : Vals vs us) (h : sp (vs ++ []) H Q fun cls _ H2 => xk σ cls H2) : wpAny (model X.prog X.w) X.A (call (.ref f) us) (EP X pins σ Q) (XP X pins xk) s := by
  have r2 : Vals (vs ++ []) (us ++ []) := r.append .nil
  have hl : (us ++ []).length = ps.length := by rw [← r2.length]; exact F.len _ _ _ _ h
  refine wpAny_call (codeAny_mono (F.run X.A X.stack s H ⟨us, []⟩ (us ++ []) (vs ++ []) Q _ hr I.env0 (hb s us I.kIn hl) r2 h) fun r s' hq => ?_)
  cases r with
  | error e => exact CX1.xp (E := fun cls _ H2 => xk σ cls H2) fx I hq fun cls H' z => z
  | ok fl =>
    cases fl with
    | ret u => exact I.after hq
    | next => exact False.elim hq
    | brk => exact False.elim hq
    | cont => exact False.elim hq
theorem pex_fn (fx : FnCx X) (D : Df X.prog X.w X.K X.mg X.base (CX1 X.prog X.w) k x ps sp) (hr : Room k X.A) (ha : PA X.nox (e :: es) t) (hg : Gl X x := by rfl) (hdb : (x == ("__debug__" : Str)) = false := by decide)
    (he : starEach (e :: es) X.env = (false, eval e X.env) :: starEach es X.env := by rfl) (hpl : (backTo pos (starEach es X.env)).any (·.1) = false := by rfl) : PEX X (.Call (.Name x p) (e :: es) [] pos) (tCallX sp t) := by
  obtain ⟨f, fd, hm, hk, hb, F⟩ := D.ex
  intro pins s σ H Q xk I h
  refine wpAny_Call_Name_kw (ld_glob I hg hm ?_ hdb)
  refine PySem.W.callWith_K (h₀ := X.base) I.ok.mod.kin hk (wpAny_mono (ha pos pins s σ H _ (I.wish _) h) (fun us s1 ⟨vs, H1, I1, r, q⟩ => ⟨I1.unwish.kIn, ?_⟩) fun _ _ z => z.elim) he hpl
  exact run_fnX F hr hb fx I1.unwish r q
end
/-! ### a def that may raise -/
section
variable {P : Program} {w : World} {K : PySem.W.Frag} {mg : Str → Option Value} {base : Heap}
theorem fnCx_of {CX : CXT} {N : List Str} {qual : Str} {scope : Scope} {f : Addr} {cd : Value} {A : Around} {outer : List Env} {s : Shared} {H : Hp} {E : XK} : FnCx (cxOf CX P w K mg base N qual scope f cd A outer s H E) := ⟨rfl, rfl, rfl, fun _ => rfl⟩
theorem Fun.okX {x qual : Str} {st : Stmt} {f : Addr} {fd : FuncData} {N ps : List Str} {k : Nat} {sp : Sp} (F : Fun K x qual st f fd) (S : FnScope N ps (defScope st)) (len : ∀ vs H Q E, sp vs H Q E → vs.length = ps.length)
    (hbody : ∀ (cdv : Value) (A : Around) (outer : List Env) (s : Shared) (H : Hp) (vs : List V) (Q : VK) (E : XK), Room k (A.deeper (envOfC qual (defScope st) s.heap.objs.size f cdv)) → sp vs H Q E →
      ∃ t, PSXs (cxOf (CX1 P w) P w K mg base N qual (defScope st) f cdv A outer s H E) (defBody st) t ∧ t { nx := fun _ H' => Q .non H', rt := Q } (fun _ cls H' => E cls none H') (start N vs) H) : FnOk P w K mg base (CX1 P w) (k + 1) f fd ps sp := by
  obtain ⟨oc, od, kV, doc, pm, an, cdv, ct, osl, rfl, lk, hcd⟩ := F.ex
  refine fn_of lk hcd S len fun A outer s H vs Q E hr hsp => ?_
  obtain ⟨t, h, q⟩ := hbody cdv A outer s H vs Q E hr hsp
  refine ⟨fun D σ H' => t D (fun _ cls H' => E cls none H') σ H', fun pins s1 σ H1 D I hw => ?_, q⟩
  exact wpAny_mono (h pins s1 σ H1 D _ I hw) (fun _ _ z => z) fun e s2 z => XP.leaves fnCx_of I.ok.frames (fun _ _ _ q => q) z
end
end L2

end
section
set_option Elab.async false
set_option linter.all false
set_option maxRecDepth 100000
set_option maxHeartbeats 4000000
namespace L2
open PySem PySem.Spec PyProof.Rows

/-! ### raise C(..), C an own exception class -/
theorem own_K {K : PySem.W.Frag} {h : Heap} {C : Addr} {bmB : List Value} {newId : String} (Y : K.In h) (q : PySem.W.excIn K C bmB newId = true) : ∃ bm N nm qn bs hdct sn sub ab col dd k0 k1 k2 k3 k5 mN,
    h.get? C = some (excClassObj nm qn C N bs bm hdct sn sub ab col dd k0 k1 k2 k3 k5 newId) ∧ h.Ns N mN ∧ mN "__init__" = none ∧ OwnTail h bmB bm := by
  unfold PySem.W.excIn at q
  split at q
  case h_2 => cases q
  case h_1 dd cd sl ho =>
    split at q
    case h_2 => cases q
    case h_1 C' bm k0 k1 k2 k3 n k5 hm hs =>
      simp only [Bool.and_eq_true, beq_iff_eq, Bool.not_eq_true'] at q
      obtain ⟨⟨⟨⟨⟨e1, e2⟩, e3⟩, e4⟩, e5⟩, e6⟩ := q
      obtain ⟨nm, bs, mro, ns, qn, hd, sn, sub, ab, col, del⟩ := cd
      dsimp only at hm e3 e5 e6
      subst hm e1 e2 e3
      obtain ⟨sl⟩ := sl
      dsimp only at hs
      subst hs
      exact ⟨bm, ns, nm, qn, bs, hd, sn, sub, ab, col, dd, k0, k1, k2, k3, k5, _, Y _ _ ho, .of_isNs (PySem.W.isNs_of_in Y e5), PySem.W.nsMap_none_of_in Y e5 e6, PySem.W.tail_of_in Y e4⟩
section
variable {X : Cx} {C : Addr} {bmB : List Value} {Bn newId initId : String} {x : Str} {np cpos pos : Pos} {e : Expr} {es : List Expr} {t : TA}
/-- what is left of the heap when the frames are hidden -/
theorem cov_hide {pins : List (Addr × Obj)} {σ : St} {H : Hp} {s : Shared} (fx : FnCx X) (I : Inv X pins σ H s) : Cov X pins H (PySem.W.hideAll s.heap (frs X.stack)) ∧ (PySem.W.hideAll s.heap (frs X.stack)).StaysIn s.heap ∧ s.heap.FunFrames (PySem.W.hideAll s.heap (frs X.stack)) X.stack := by
  have nx : ∀ b : Addr, b ∉ X.ex := fun b => by rw [fx.ex]; simp
  have neL : ∀ b o, X.s₀.heap.get? b = some o → b ≠ X.env.locals := fun b o z => Nat.ne_of_lt (Nat.lt_of_lt_of_le (Heap.lt_size z) I.ok.above)
  refine ⟨⟨fun b o z n hb => PySem.W.hideAll_get _ (I.base.keep b o z n hb (nx b)) (I.nofsL fx (neL b o z) hb), fun b hb => ?_, fun x c z => ?_, fun p hp => ?_, fun b o z hb => ?_⟩, fun b o z => PySem.W.of_hideAll _ z, PySem.W.funFrames_hide I.stack fun env he a ha => List.mem_filterMap.mpr ⟨env, he, ha⟩⟩
  · cases q : H b with
    | none => exact absurd q hb
    | some u =>
      have lt := I.hok.lt q
      obtain ⟨o, ho⟩ : ∃ o, s.heap.get? b = some o := by
        have z := I.hok b u q
        cases u with
        | lst xs => obtain ⟨_, _, _, _, e⟩ := z; exact ⟨_, e⟩
        | tup xs => obtain ⟨_, _, _, ob, e, _⟩ := z; exact ⟨_, e⟩
        | dK kvs => obtain ⟨_, _, _, _, o, _, _, e, _⟩ := z; exact ⟨_, e⟩
        | dT kvs => obtain ⟨_, _, _, _, o, _, _, e, _⟩ := z; exact ⟨_, e⟩
        | set S n => obtain ⟨o, _, _, _, e, _⟩ := z; exact ⟨_, e⟩
        | ins C dx fs => obtain ⟨_, _, _, e, _⟩ := z; exact ⟨_, e⟩
        | own y => exact z
        | xd fs => obtain ⟨_, ⟨_, _, _, e, _⟩, _⟩ := z; exact ⟨_, e⟩
        | rng lo hi => obtain ⟨_, _, _, e⟩ := z; exact ⟨_, e⟩
        | frz ob u => exact ⟨_, z.1⟩
        | tbl ps => exact ⟨_, z⟩
        | met f y => exact ⟨_, z⟩
        | ext φ => exact z.2.1
      refine ⟨o, PySem.W.hideAll_get _ ho fun hm => ?_⟩
      rw [I.stkFree b hm] at q
      cases q
  · obtain ⟨v, o, ho, _⟩ := I.cell x c z
    refine ⟨o, PySem.W.hideAll_get _ ho (I.nofsL fx (I.cne x c z) fun hb => ?_)⟩
    obtain ⟨_, o2, ho2, _⟩ := I.ok.funs.mem hb
    exact absurd (Nat.lt_of_lt_of_le (Heap.lt_size ho2) (I.ok.cab x c (fx.fn x) z)) (Nat.lt_irrefl _)
  · obtain ⟨z, n, ne, nf, _⟩ := I.pin p hp
    exact PySem.W.hideAll_get _ z (I.nofsL fx ne nf)
  · obtain ⟨o1, z1⟩ := I.base.there b o z (nx b)
    exact ⟨o1, PySem.W.hideAll_get _ z1 (I.nofsL fx (neL b o z) hb)⟩
theorem psx_raise (fx : FnCx X) (hc : X.calm = true) (hm : X.mg x = some (.ref C)) (q : PySem.W.excIn X.K C bmB newId = true) (FB : ExcBaseFacts Bn newId initId bmB) (ha : PA X.nox (e :: es) t) (hg : Gl X x := by rfl) (hdb : (x == ("__debug__" : Str)) = false := by decide)
    (he : starEach (e :: es) X.env = (false, eval e X.env) :: starEach es X.env := by rfl) (hpl : (backTo cpos (starEach es X.env)).any (·.1) = false := by rfl) :
    PSX X (.Raise (some (.Call (.Name x np) (e :: es) [] cpos)) none pos) (fun _ xk σ H => t σ H fun vs H1 => vs.length ≤ sizeLine ∧ xk σ (.ref C) H1) := by
  intro pins s σ H D xk I h
  obtain ⟨bm, N, nm, qn, bs, hdct, sn, sub, ab, col, dd, k0, k1, k2, k3, k5, mN, hC, hN, hni, T⟩ := own_K I.mod.kin q
  refine wpAny_Raise_call_subT (C := C) (nm := nm) (q := qn) (N := N) (bs := bs) (bm := bm) (hdct := hdct) (sn := sn) (sub := sub) (ab := ab) (col := col) (dd := dd) (k0 := k0) (k1 := k1) (k2 := k2) (k3 := k3) (k5 := k5) FB (mN := mN) (T.hasType FB.hasBase) (I.ok.hd hc)
    (by rw [he]; show (false || (backTo cpos (starEach es X.env)).any (·.1)) = false; rw [hpl]; rfl) hni (ld_glob I hg hm ⟨rfl, ?_⟩ hdb)
  have hA := ha cpos pins s σ H _ (I.wish _) h
  rw [show starEach (e :: es) X.nox.env = (false, eval e X.env) :: starEach es X.env from he] at hA
  rw [he]
  refine Calls.evalArgs_plain (wpAny_mono hA (fun us s2 ⟨vs, H2, I2, r, hz, hx⟩ => ?_) fun _ _ z => z.elim)
  have I2 := I2.unwish
  refine ⟨rfl, by rw [← r.length]; exact hz, I2.bk _ _ hC, hN.keeps I2.bk, T.keeps I2.bk, fun h' ea mk => ?_⟩
  obtain ⟨cv, st, fu⟩ := cov_hide fx I2
  exact ⟨ea, .ref C, σ, H2, rfl, I2.kept (t' := s2.toks) mk.keeps, .inl ⟨_, s2.heap, us, cv, mk, st, fu⟩, hx⟩
end
/-! ### for, its body may raise -/
def tForX (wi : TI) (g : TG) (tb : TX) : TX := fun D xk σ H => wi σ H fun J H1 => ∃ W : Nat → Nat → St → Hp → Prop, (∃ m, W 0 m σ H1) ∧ ∀ i m σ H, W i m σ H →
  (J.stop i H ∧ D.nx σ H) ∨ (J.go i H ∧ ∃ N : St → Hp → Prop, (∀ σ' H', N σ' H' → ∃ m', m' < m ∧ W (i + 1) m' σ' H') ∧ ∀ x H', J.yld i H x H' → g x σ H' fun σ2 H2 => tb { D with nx := N, ct := N, bk := D.nx } xk σ2 H2)
theorem PIE.unwish {X : Cx} {pins : List (Addr × Obj)} {σ : St} {tg : Expr} {R : It → Hp → Prop} {v : Value} {s : Shared} {E : Value → Shared → Prop} (h : PIE (X.wish E) pins σ tg R v s) : PIE X pins σ tg R v s :=
  let ⟨it, fp, tn, J, H', e, I, T, st, f, r⟩ := h; ⟨it, fp, tn, J, H', e, I.unwish, T, st, f, r⟩
theorem psx_for {X : Cx} {tg iter : Expr} {body : List Stmt} {wi : TI} {g : TG} {tb : TX} {pos : Pos} (fx : FnCx X) (hc : X.calm = true) (hi : PI X.nox tg iter wi) (hg : PG X.nox tg g) (hb : PSXs X body tb)
    (hs : ∀ x, foldedSetIterable iter X.env x = pure x := by intro _; rfl) : PSX X (.For tg iter body [] pos) (tForX wi g tb) := by
  intro pins s σ H D xk I h
  have hp : PassesOwn (model X.prog X.w) X.A X.env (XP X pins xk) := XP.passes fx I.ok.frames
  refine wpAny_For (wpAny_mono (hi pins s σ H _ (I.wish _) h) (fun v s1 h1 => wpAny_mono h1 (fun itv s2 h2 => ?_) fun _ _ z => z.elim) fun _ _ z => z.elim) hs
  obtain ⟨it, fp, tn, J, H2, e, I2, T, st2, f2, W, ⟨m0, w0⟩, turn⟩ := PIE.unwish h2
  subst e
  have stat : ∀ {H' : Hp}, (∀ b ∈ fp, H' b = none) → ∀ b ∈ fp, FpOk X pins H' b := fun hn b hb => ⟨hn b hb, (f2 b hb).2⟩
  refine codeAny_forLoop_any (fun n s' => ∃ i σ' H', Inv X pins σ' H' s' ∧ tn i s'.heap ∧ (∀ b ∈ fp, H' b = none) ∧ W i n σ' H') ?_ m0 ⟨0, σ, H2, I2, st2, fun b hb => (f2 b hb).1, w0⟩
  rintro n s3 ⟨i, σ3, H3, I3, st3, fr3, w3⟩
  rcases turn i n σ3 H3 w3 with ⟨stop, qn⟩ | ⟨go, N, hN, step⟩
  · refine wpAny_passesOwn hp (thn (T.done X rfl rfl rfl hc i pins s3 σ3 H3 _ I3 (stat fr3) st3 stop) fun r s4 ⟨hr, I4⟩ => ?_)
    subst hr
    exact wpAny_execs_nil ⟨σ3, H3, I4, qn⟩
  · refine wpAny_passesOwn hp (thn (T.item X rfl rfl rfl hc i pins s3 σ3 H3 _ I3 (stat fr3) st3 go) fun r s4 ⟨u, hr, h4⟩ => ?_)
    subst hr
    refine wpAny_passesOwn hp (thn h4 fun _ s5 ⟨x, H5, I5, r5, y5, st5, fr5⟩ => ?_)
    have I5' := I5.pinned (stat fr5) (T.obj _ _ st5)
    refine wpAny_mono (hg _ s5 σ3 H5 x u _ (I5'.wish _) r5 (step x H5 y5)) (fun _ s6 ⟨σ6, H6, I6, q6⟩ => ?_) fun _ _ z => z.elim
    refine wpAny_passesOwn hp (wpAny_mono (hb _ s6 σ6 H6 _ xk I6.unwish q6) (fun f s7 q7 => ?_) fun _ _ z => z.unpinned)
    have again : ∀ {σ7 : St} {H7 : Hp}, Inv X (pins ++ pinsAt fp s5.heap) σ7 H7 s7 → N σ7 H7 → ∃ m, m < n ∧ ∃ i σ' H', Inv X pins σ' H' s7 ∧ tn i s7.heap ∧ (∀ b ∈ fp, H' b = none) ∧ W i m σ' H' := fun {σ7 H7} I7 n7 => by
      obtain ⟨m', hm, w7⟩ := hN σ7 H7 n7
      refine ⟨m', hm, i + 1, σ7, H7, I7.unpinned, T.keep _ _ _ st5 fun b hb o e => (I7.pin (b, o) (List.mem_append_right _ (List.mem_append_right _ (mem_pinsAt hb e)))).1, fun b hb => ?_, w7⟩
      obtain ⟨o, e, d⟩ := T.obj _ _ st5 b hb
      exact (I7.pin (b, o) (List.mem_append_right _ (List.mem_append_right _ (mem_pinsAt hb e)))).2.1
    cases f with
    | next => obtain ⟨σ7, H7, I7, n7⟩ := q7; exact again I7 n7
    | cont => obtain ⟨σ7, H7, I7, n7⟩ := q7; exact again I7 n7
    | brk => obtain ⟨σ7, H7, I7, q7⟩ := q7; exact ⟨σ7, H7, I7.unpinned, q7⟩
    | ret v => obtain ⟨x7, σ7, H7, I7, r7, q7⟩ := q7; exact ⟨x7, σ7, H7, I7.unpinned, r7, q7⟩
/-! ### enumerate(xs), unpacked on the spot -/
def Ite (K : PySem.W.Frag) (a : Addr) : It :=
  ⟨fun i H => ∃ xs x, SqL K H a xs ∧ xs[i]? = some x, fun i H x H' => ∃ p, H p = none ∧ x = .ref p ∧ ∃ y, H' = upd H p (.tup [.int i, y]) ∧ ∀ xs, SqL K H a xs → xs[i]? = some y, fun i H => ∃ xs, SqL K H a xs ∧ xs.length ≤ i⟩
section
variable {X : Cx} {pins : List (Addr × Obj)} {σ : St} {H : Hp} {s : Shared} {h' : Heap} {e it : Addr}
/-- two records of ours have turned, a tuple is laid -/
theorem Inv.turned2 {t' : Nat} {us : List Value} {ys : List V} (I : Inv X pins σ H s) (k : ∀ b o, b ≠ e → b ≠ it → s.heap.get? b = some o → h'.get? b = some o) (fe : FpOk X pins H e) (fi : FpOk X pins H it) (hz : s.heap.objs.size < h'.objs.size ∨ True)
    (ht : h'.get? s.heap.objs.size = some { cls := .type "tuple", data := .seq us.toArray }) (r : Vals ys us) (hl : ys.length ≤ sizeLine) : Inv X pins σ (upd H s.heap.objs.size (.tup ys)) { s with heap := h', toks := t' } := by
  have hn : H s.heap.objs.size = none := I.fresh
  have nb : ∀ b u, H b = some u → b ≠ e ∧ b ≠ it := fun b u q => ⟨fun z => (by rw [z, fe.1] at q; cases q), fun z => (by rw [z, fi.1] at q; cases q)⟩
  have old : ∀ b o, s.heap.get? b = some o → b ≠ s.heap.objs.size := fun b o q => Nat.ne_of_lt (Heap.lt_size q)
  refine I.step (g' := s.gens) (d' := s.drawn) (ch := [e, it]) (fun b hb => ?_) (fun b o _ _ hc q _ => k b o (fun z => hc (by simp [z])) (fun z => hc (by simp [z])) q) (fun b o _ _ hc q _ => ⟨o.slots, k b o (fun z => hc (by simp [z])) (fun z => hc (by simp [z])) q⟩) (fun b o _ q n => by rw [upd_ne (old b o q)]; exact n)
    (fun b o hc q => ⟨o, k b o (fun z => hc (by simp [z])) (fun z => hc (by simp [z])) q⟩) (fun b xs q => by rw [upd_ne (ne_of_none q hn)]; exact q) (fun b o u q => by rw [upd_ne (ne_of_none q hn)]; exact q) (fun b ps q => ⟨#[], by rw [upd_ne (ne_of_none q hn), q]; simp⟩) (fun m hm => ?_) (fun b u q => ?_) I.bare
  · simp at hb
    rcases hb with z | z <;> subst z
    · exact ⟨fe.2.2.2.1, fe.2.1, fe.2.2.2.2.1, fe.2.2.2.2.2⟩
    · exact ⟨fi.2.2.2.1, fi.2.1, fi.2.2.2.2.1, fi.2.2.2.2.2⟩
  · obtain ⟨o, es, ep, ho, z⟩ := hm
    exact ⟨o, es, ep, k _ o (Ne.symm fe.2.1) (Ne.symm fi.2.1) ho, z⟩
  · by_cases hb : b = s.heap.objs.size
    · subst hb
      rw [upd_same] at q
      cases q
      exact ⟨hl, us, r, ⟨_, ht, rfl, _, rfl⟩⟩
    · rw [upd_ne hb] at q
      refine (I.hok b u q).stay (fun c v hc z => ?_) (fun c z => by rw [upd_ne (ne_of_none z hn)]; exact z) fun c xs z => by rw [upd_ne (ne_of_none z hn)]; exact z
      rcases hc with rfl | hc
      · exact k c v (nb c u q).1 (nb c u q).2 z
      · exact k c v (nb c _ hc).1 (nb c _ hc).2 z
end
theorem turn_enum {P : Program} {w : World} {K : PySem.W.Frag} {elts : List Expr} {kk : Nat} {tp : Pos} (a e it : Addr) (hne : e ≠ it) : Turn P w K (.Tuple elts kk tp) (Ite K a) [e, it] e (fun i h => (∃ old, IsEnum h e it i old) ∧ h.IsListIter it a i) where
  mem := by simp
  obj := fun i h st b hb => by
    obtain ⟨⟨old, q⟩, o, z, c, d⟩ := st
    simp at hb
    rcases hb with y | y <;> subst y
    · exact ⟨_, q, fun v z => by have z' : Data.fields _ = Data.cell v := z; cases z'⟩
    · exact ⟨o, z, fun v z => by rw [d] at z; cases z⟩
  keep := fun i h h' st k => ⟨let ⟨old, q⟩ := st.1; ⟨old, k e (by simp) _ q⟩, st.2.at fun o q => k it (by simp) o q⟩
  item := by
    intro X hP hw hK hc i pins s σ H E I hf st hg
    subst hP hw hK
    obtain ⟨xs, x, hq, hx⟩ := hg
    obtain ⟨its, rv, p, hz⟩ := I.list hq
    obtain ⟨u, hu, ru⟩ := rv.get hx
    obtain ⟨⟨old, q⟩, li⟩ := st
    have fe := hf e (by simp)
    have fi := hf it (by simp)
    refine wpAny_pyNext_enum_item q li p.isList (x := u) (by simpa using hu) hne fun h' q' li' tu hs k => ?_
    have I1 := I.turned2 (t' := s.toks + 1) (ys := [.int i, x]) k fe fi (.inr trivial) tu (.cons ⟨_, rfl⟩ (.cons ru .nil)) (by show 2 ≤ sizeLine; decide)
    have nt : s.heap.objs.size ≠ e := fun z => by have := Heap.lt_size q; rw [← z] at this; exact absurd this (Nat.lt_irrefl _)
    have nti : s.heap.objs.size ≠ it := fun z => by obtain ⟨o, z2, _⟩ := li; have := Heap.lt_size z2; rw [← z] at this; exact absurd this (Nat.lt_irrefl _)
    have fe1 : (upd H s.heap.objs.size (.tup [V.int i, x])) e = none := by rw [upd_ne (Ne.symm nt)]; exact fe.1
    have fi1 : (upd H s.heap.objs.size (.tup [V.int i, x])) it = none := by rw [upd_ne (Ne.symm nti)]; exact fi.1
    refine ⟨_, rfl, wpAny_letOwnedTupleGo_enum (s := { s with heap := h', toks := s.toks + 1 }) q' fun h2 q2 sb => ?_⟩
    have I2 : Inv X pins σ (upd H s.heap.objs.size (.tup [V.int i, x])) { s with heap := h2, toks := s.toks + 1 } := I1.turned (t' := s.toks + 1) (fun b o hb z => (sb.2 b hb).trans z) fe1 fe.2.1 fe.2.2.2.1 fe.2.2.2.2.1 fe.2.2.2.2.2
    refine ⟨V.ref s.heap.objs.size, _, I2, rfl, ⟨_, I.fresh, rfl, x, rfl, fun ys hy => by rw [I.list_inj hy hq]; exact hx⟩, ⟨⟨_, q2⟩, li'.extBut sb.extBut (Ne.symm hne)⟩, fun b hb => ?_⟩
    simp at hb
    rcases hb with y | y <;> subst y
    · exact fe1
    · exact fi1
  done := by
    intro X hP hw hK hc i pins s σ H E I hf st hg
    subst hP hw hK
    obtain ⟨xs, hq, hx⟩ := hg
    obtain ⟨its, rv, p, hz⟩ := I.list hq
    obtain ⟨⟨old, q⟩, li⟩ := st
    obtain ⟨f0, f1, f2, f3, f4, f5⟩ := hf it (by simp)
    have hl := rv.length
    exact wpAny_pyNext_enum_end (I.ok.hd hc) q li p.isList (by simp; omega) fun h' eb => ⟨rfl, I.turned (t' := s.toks) (fun b o hb z => eb b o hb z) f0 f1 f3 f4 f5⟩
  self := fun _ _ _ _ _ st h => let ⟨_, q⟩ := st.1; wpAny_pyIter_enum q h
def iEnum (K : PySem.W.Frag) (tl : TA) : TI := fun σ H R => tl σ H fun vs H1 => ∃ a, vs = [.ref a] ∧ (∃ xs, SqL K H1 a xs) ∧ R (Ite K a) H1
theorem pi_enum {X : Cx} {elts : List Expr} {kk : Nat} {tp p pos : Pos} {l : Expr} {tl : TA} (hg : Gl X "enumerate") (hm : X.mg "enumerate" = none) (ha : PA X [l] tl) (hs : starEach [l] X.env = [(false, eval l X.env)] := by rfl) (hpl : (backTo pos (starEach [] X.env)).any (·.1) = false := by rfl) :
    PI X (.Tuple elts kk tp) (.Call (.Name "enumerate" p) [l] [] pos) (iEnum X.K tl) := by
  intro pins s σ H R I h
  refine wpAny_Call_Name_kw (ld_blt I hg hm boot_enumerate ?_)
  refine PyProof.Rows.callWith_type1 (thn (ha pos pins s σ H _ I h) fun us s1 ⟨vs, H1, I1, r1, a, ev, hx, q⟩ => ?_) hs hpl
  subst ev
  obtain ⟨u, rfl, ru⟩ := vals1 r1
  obtain rfl : u = Value.ref a := ru
  obtain ⟨xs, hq⟩ := hx
  obtain ⟨its, rv, pl, _⟩ := I1.list hq
  refine call_enumerate_list pl.isList fun h' q1 q2 hz k => ?_
  have I2 : Inv X pins σ H1 { s1 with heap := h' } := I1.kept (t' := s1.toks) k
  refine wpAny_pyIter_enum (s := { s1 with heap := h' }) q1 ?_
  refine ⟨s1.heap.objs.size + 1, [s1.heap.objs.size + 1, s1.heap.objs.size], _, Ite X.K a, H1, rfl, I2, turn_enum a _ _ (by simp), ⟨⟨_, q1⟩, q2⟩, fun b hb => ?_, q⟩
  simp at hb
  rcases hb with z | z <;> subst z
  · exact I1.fpOk (Nat.le_succ _) (I1.hok.fresh (Nat.le_succ _))
  · exact I1.fpOk (Nat.le_refl _) I1.fresh
end L2

end
section
set_option Elab.async false
set_option linter.all false
set_option maxRecDepth 100000
set_option maxHeartbeats 4000000
namespace L2
open PySem PySem.Spec PyProof.Rows

/-! ### what is known of an own exception class -/
structure XCls (K : PySem.W.Frag) (D : Addr) : Prop where
  ga : PySem.W.findIn K (.ref D) "__getattribute__" = some (some (.builtin "BaseException.__getattribute__"))
  gn : PySem.W.findIn K (.ref D) "__getattr__" = some none
  cl : PySem.W.findIn K (.ref D) "__class__" = some (some (.builtin "object.__class__"))
  hn : PySem.W.specialIn K (.builtin "object.__class__") "__get__" = some (some (.builtin "getset_descriptor.__get__"))
  tk : PySem.W.takesIn K (.builtin "object.__class__") = some true
  mo : PySem.W.mroIn K D (.type "object") = some true
  mb : PySem.W.mroIn K D (.type "BaseException") = some true
  ty : PySem.W.typeIn K (.ref D) = some (.type "type")
theorem mro_cls {K : PySem.W.Frag} {D : Addr} {b : Value} {r : Bool} (e : PySem.W.mroIn K D b = some r) : ∃ cd, PySem.W.clsIn K D = some cd := let ⟨cd, a, _⟩ := Option.bind_eq_some_iff.mp e; ⟨cd, a⟩
section
variable {prog : Program} {w : World} {A : Around} {E : Value → Shared → Prop} {s : Shared} {K : PySem.W.Frag} {x D : Addr} {ox : Obj}
theorem XCls.ca {Q : Option Value → Shared → Prop} (Z : XCls K D) (X : K.In s.heap) (I : PySem.W.InstAt s.heap x ox D none) (h : Q (some (.ref D)) { s with toks := s.toks + 1 }) : wpAny (model prog w) A (getAttr? (.ref x) "__class__") Q E s := by
  obtain ⟨cd, hcd⟩ := mro_cls Z.mo
  have hf : PySem.W.findObj K D none "__class__" = some (.bind (.builtin "getset_descriptor.__get__") (.builtin "object.__class__")) := by
    unfold PySem.W.findObj
    rw [hcd, Option.bind_some, Z.cl, Option.bind_some]
    simp [Z.hn, Z.tk]
  obtain ⟨hh, g, d, t, os⟩ := s
  have L0 := I.type (M := model prog w)
  have L1 := PySem.W.looks_findIn (M := model prog w) X Z.ga
  have L2 := PySem.W.looks_findIn (M := model prog w) X Z.gn
  have L3 := PySem.W.looks_find (M := model prog w) X I hf
  have L4 := PySem.W.looks_mroIn (M := model prog w) X Z.mb
  have f3 := F.excAttr_ValueError.ga.bind (.ref x)
  have hx2 : (onTheHeap (Value.ref D) && Value.builtin "BaseException.__getattribute__" == Value.builtin "object.__getattribute__") = false := by
    have : (Value.builtin "BaseException.__getattribute__" == Value.builtin "object.__getattribute__") = false := by decide +kernel
    rw [this]; rfl
  unfold getAttr? getAttrBy? getAttrBy
  refine wpAny_bind (wpAny_mkText (wpAny_bind (wpAny_attempt (wpAny_holding (wpAny_bind (L0.at (wpAny_bind (L1.at ?_))))))))
  dsimp only
  rw [hx2, if_neg (by decide)]
  unfold getAttrByItsOwn hookBefore
  rw [if_pos (show onTheHeap (Value.ref D) = true from rfl)]
  refine wpAny_bind (L2.at ?_)
  refine wpAny_bind (wpAny_attempt (wpAny_holding ?_))
  unfold callGetattribute
  rw [if_neg (by simp)]
  unfold boundAndCalled
  rw [f3]
  refine wpAny_bind (wpAny_pure ?_)
  have hk : builtinKind "BaseException.__getattribute__" = some .slot := by decide +kernel
  have hsplit : splitId "BaseException.__getattribute__" = some ("BaseException", "__getattribute__") := by decide +kernel
  have hargs := F.args_bexc_ga (.ref x) (.str "__class__" t)
  have LI : PySem.W.Looks (model prog w) hh (isInstance (.ref x) (.type "BaseException")) true := L0.andThen L4
  have chk : ∀ {A' : Around} {E' : Value → Shared → Prop} {Q' : Unit → Shared → Prop}, Q' () ⟨hh, g, d, t + 1, os⟩ → wpAny (model prog w) A' (checkBuiltinCall "BaseException.__getattribute__" ⟨[.ref x, .str "__class__" t], []⟩) Q' E' ⟨hh, g, d, t + 1, os⟩ := by
    intro A' E' Q' hq
    simp only [checkBuiltinCall, hk, hsplit]
    refine wpAny_bind (LI.at ?_)
    repeat (first | assumption | wp_step)
  refine wpAny_call (codeAny_call_builtin F.excAttr_ValueError.ga.plain F.entry_bexc_ga (chk ?_))
  unfold Builtin.«object.__getattribute__»
  refine wpAny_bind (wpAny_pure ?_)
  refine wpAny_bind (wpAny_pure ?_)
  refine wpAny_bind (L0.at ?_)
  refine wpAny_bind (L3.at ?_)
  show wpAny _ _ (holding [Value.builtin "object.__class__"] (call (.builtin "getset_descriptor.__get__") [.builtin "object.__class__", .ref x, .ref D]) >>= ret) _ _ _
  refine wpAny_bind (wpAny_holding (wpAny_call (PySem.W.class_get (s := ⟨hh, g, d, t + 1, os⟩) (ox := ox) (od := none) X I Z.mo ?_)))
  exact wpAny_pure (wpAny_pure (wpAny_pure h))
theorem XCls.kitx (Z : XCls K D) : PySem.W.KitX K (.ref x) (.ref D) (fun h => ∃ ox, PySem.W.InstAt h x ox D none) where
  ty := fun _ _ _ ⟨_, I⟩ => I.type
  it := fun _ _ X _ => by
    obtain ⟨cdD, hcD⟩ := mro_cls Z.mo
    unfold PySem.W.clsIn at hcD
    split at hcD
    · rename_i c' d' cd' sl' ho
      intro A' Q' E' s' k q
      unfold isType loadHead
      exact wpAny_bind (wpAny_loadPart (k _ _ (X _ _ ho)) (wpAny_pure q))
    · cases hcD
  ne := fun h tp dd its n sl X htp => by
    obtain ⟨cdD, hcD⟩ := mro_cls Z.mo
    refine Bool.eq_false_iff.mpr fun q => ?_
    have e : D = tp := Value.ref.inj (beq_iff_eq.mp q)
    subst e
    unfold PySem.W.clsIn at hcD
    split at hcD
    · rename_i c' d' cd' sl' ho
      have z := (X _ _ ho).symm.trans htp
      cases z
    · cases hcD
  ca := fun X ⟨_, I⟩ k => Z.ca X I k
/-- whether except C matches it -/
theorem XCls.matches {C : Addr} {b : Bool} {Q : Bool → Shared → Prop} (Z : XCls K D) (ZC : XCls K C) (X : K.In s.heap) (I : PySem.W.InstAt s.heap x ox D none) (e : PySem.W.mroIn K D (.ref C) = some b) (h : Q b s) : wpAny (model prog w) A (excMatches (.ref x) (.ref C)) Q E s := by
  obtain ⟨hh, g, d, t, os⟩ := s
  have L0 := I.type (M := model prog w)
  have L1 := PySem.W.looks_typeIn (M := model prog w) X ZC.ty
  have L2 := PySem.W.looks_mroIn (M := model prog w) X ZC.mb
  have L3 := PySem.W.looks_mroIn (M := model prog w) X e
  obtain ⟨cdC, hcC⟩ := mro_cls ZC.mo
  have L4 : PySem.W.Looks (model prog w) hh (isType (.ref C)) true := by
    unfold PySem.W.clsIn at hcC
    split at hcC
    · rename_i c' d' cd' sl' ho
      intro A' Q' E' s' k q
      unfold isType loadHead
      exact wpAny_bind (wpAny_loadPart (k _ _ (X _ _ ho)) (wpAny_pure q))
    · cases hcC
  have f : PySem.W.Looks (model prog w) hh (isSubtype (.type "type") (.type "tuple")) false := PySem.W.Looks.of_pure tc_notTuple
  have LX : PySem.W.Looks (model prog w) hh (isExcClass (.ref C)) true := by
    unfold isExcClass
    first | exact L4.andThen L2 | exact L2.andThen .now | exact L4.andThen (L2.andThen .now)
  unfold excMatches
  refine wpAny_bind ((L1.andThen f).at ?_)
  dsimp only
  rw [if_neg (by decide)]
  refine wpAny_bind (wpAny_pure ?_)
  simp only [List.forIn_cons, List.forIn_nil]
  refine wpAny_bind (wpAny_bind (wpAny_bind (LX.at ?_)))
  simp only [Bool.not_true, Bool.false_eq_true, if_false]
  refine wpAny_pure (wpAny_pure ?_)
  refine wpAny_bind (L0.at ?_)
  simp only [List.forIn_cons, List.forIn_nil]
  refine wpAny_bind (wpAny_bind (wpAny_bind (L3.at ?_)))
  cases b with
  | true => exact wpAny_pure (wpAny_pure (wpAny_pure h))
  | false => exact wpAny_pure (wpAny_pure (wpAny_pure h))
end
/-! ### in a handler -/
abbrev Cx.hnd (X : Cx) (ea : Addr) : Cx := { X with A := X.A.mark (some (.ref ea)), calm := false }
section
variable {X : Cx} {pins : List (Addr × Obj)} {σ : St} {H : Hp} {s : Shared} {ea : Addr}
theorem Cx.Ok.hnd (ok : X.Ok) : (X.hnd ea).Ok := ⟨ok.mod, ok.kind, ok.glob, ok.blt, ok.above, ok.inj, ok.has, ok.cab, (fun z => nomatch z), ok.frames, ok.stk, ok.exf, ok.bs, ok.bsz, ok.noex, ok.exfs, ok.funs, ok.frf⟩
theorem Inv.hnd (I : Inv X pins σ H s) : Inv (X.hnd ea) pins σ H s := ⟨I.ok.hnd, I.os, I.bare, I.base, I.loc, I.cell, I.free, I.freeC, I.pin, I.hok, I.len⟩
theorem Inv.unhnd (ok : X.Ok) (I : Inv (X.hnd ea) pins σ H s) : Inv X pins σ H s := ⟨ok, I.os, I.bare, I.base, I.loc, I.cell, I.free, I.freeC, I.pin, I.hok, I.len⟩
theorem SP.unhnd {D : Ends} {f : Flow} (ok : X.Ok) (h : SP (X.hnd ea) pins D f s) : SP X pins D f s := by
  cases f with
  | next => obtain ⟨σ', H', I, q⟩ := h; exact ⟨σ', H', I.unhnd ok, q⟩
  | brk => obtain ⟨σ', H', I, q⟩ := h; exact ⟨σ', H', I.unhnd ok, q⟩
  | cont => obtain ⟨σ', H', I, q⟩ := h; exact ⟨σ', H', I.unhnd ok, q⟩
  | ret u => obtain ⟨v, σ', H', I, r, q⟩ := h; exact ⟨v, σ', H', I.unhnd ok, r, q⟩
/-- a name goes -/
theorem gone_ok {M : Model} {A : Around} {E : Value → Shared → Prop} {i : Nat} {x : Str} {pos : Pos} {Q : Unit → Shared → Prop} (I : Inv X pins σ H s) (hN : X.N.Nodup) (hi : X.N[i]? = some x) (hk : X.env.scope.names.lookup x = some .local)
    (h : ∀ s', Inv X pins (σ.set i none) H s' → Q () s') : wpAny M A (do bindName X.env x .none; unbindBehindTheSuite X.env x pos) Q E s := by
  obtain ⟨m, hn, hl⟩ := id I.loc
  have hcls : (X.env.scope.kind == .class || (X.env.scope.kind == .module && X.env.locals != X.env.globals)) = false := by rw [I.ok.kind]; rfl
  have hiσ : i < σ.length := by rw [I.len]; exact (List.getElem?_eq_some_iff.mp hi).1
  have cne := I.cne
  refine wpAny_nameGoes_keeps hk hn hcls fun h' v hn' hs => ?_
  obtain ⟨oL, _, _, hoL, _⟩ := id hn
  refine h _ ⟨I.ok, I.os, I.bare, ⟨fun b o e n hb hx => ?_, fun b o e n hb hx => ?_, I.base.free, fun b o e hx => ?_, I.base.tups, I.base.frzs, I.base.tbls⟩, ⟨_, hn', fun j y v' e1 e2 e3 => ?_⟩, fun y c e => ?_, I.free, I.freeC, fun p hp => ?_, fun b ob e => ?_, by simpa using I.len⟩
  · exact (hs.2 b (Nat.ne_of_lt (Nat.lt_of_lt_of_le (Heap.lt_size e) I.ok.above))).trans (I.base.keep b o e n hb hx)
  · obtain ⟨sl, e1⟩ := I.base.slot b o e n hb hx
    exact ⟨sl, (hs.2 b (Nat.ne_of_lt (Nat.lt_of_lt_of_le (Heap.lt_size e) I.ok.above))).trans e1⟩
  · obtain ⟨o', e1⟩ := I.base.there b o e hx
    exact ⟨o', (hs.2 b (Nat.ne_of_lt (Nat.lt_of_lt_of_le (Heap.lt_size e) I.ok.above))).trans e1⟩
  · by_cases hj : j = i
    · subst hj
      rw [List.getElem?_set_self hiσ] at e2
      cases e2
    · rw [List.getElem?_set_ne (Ne.symm hj)] at e2
      obtain ⟨u', r', q⟩ := hl j y v' e1 e2 e3
      refine ⟨u', r', ?_⟩
      rcases q with ⟨k, e⟩ | ⟨k, c, e, z⟩
      · refine .inl ⟨k, ?_⟩
        have : y ≠ x := fun e => hj (nodup_ix hN e1 (e ▸ hi))
        simp [this, e]
      · exact .inr ⟨k, c, e, z.sameBut hs (cne y c e)⟩
  · obtain ⟨w', z⟩ := I.cell y c e
    exact ⟨w', z.sameBut hs (cne y c e)⟩
  · obtain ⟨e, n, ne, nf, d⟩ := I.pin p hp
    exact ⟨(hs.2 p.1 ne).trans e, n, ne, nf, d⟩
  · refine (I.hok b ob e).stay (fun c w' hc q => (hs.2 c ?_).trans q) (fun _ q => q) fun _ _ q => q
    rintro rfl
    rcases hc with rfl | hc
    · rw [I.free] at e; cases e
    · rw [I.free] at hc; cases hc
/-- the caught exception is tracked: its class -/
def XO (D ea : Addr) : HO := .ext fun h => ∃ oe, PySem.W.InstAt h ea oe D none
theorem XF.inst {D : Addr} {fl : Value} {B : Heap} (F : XF X pins ea (.ref D) fl H s B) : ∃ oe, PySem.W.InstAt s.heap ea oe D none := by
  obtain ⟨oe, vs, T, oT, ts, he, hc, hdd, hd, _⟩ := F.tr
  refine ⟨oe, he, hc, ?_, ?_⟩
  · unfold PySem.W.notCls; rw [hd]
  · rw [hdd]; trivial
theorem XF.track {D : Addr} {fl : Value} {B : Heap} (fx : FnCx X) (I : Inv X pins σ H s) (F : XF X pins ea (.ref D) fl H s B) : Inv X pins σ (upd H ea (XO D ea)) s ∧ H ea = none := by
  obtain ⟨oe, vs, T, oT, ts, he, hc, hdd, hd, _⟩ := id F.tr
  have nl : ea ≠ X.env.locals := fun z => by
    obtain ⟨m, ⟨o, es, ep, ho, hod, _⟩, _⟩ := I.loc
    rw [← z, he] at ho
    cases ho
    rw [hd] at hod
    cases hod
  have nfs : ea ∉ X.fs := fun z => by
    obtain ⟨_, o, ho, hn⟩ := I.funs.mem z
    rw [he] at ho
    cases ho
    exact hn vs hd
  have hn : H ea = none := by
    cases q : H ea with
    | none => rfl
    | some u => obtain ⟨o, z⟩ := F.cov.c2 ea (by rw [q]; simp); rw [F.new] at z; cases z
  have ns : ∀ o, X.s₀.heap.get? ea = some o → False := fun o z => by obtain ⟨o', y⟩ := F.cov.c5 ea o z nfs; rw [F.new] at y; cases y
  have nb : ∀ b o, X.s₀.heap.get? b = some o → b ≠ ea := fun b o z y => ns o (y ▸ z)
  refine ⟨⟨I.ok, I.os, I.bare, ⟨I.base.keep, I.base.slot, fun b o e n hx => ?_, I.base.there, fun b xs e => ?_, fun b o u e => ?_, fun b ps e => ?_⟩, I.loc, I.cell, ?_, fun x c e => ?_, fun p hp => ?_, fun b u e => ?_, I.len⟩, hn⟩
  · rw [upd_ne (nb b o e)]; exact I.base.free b o e n hx
  · rw [upd_ne (ne_of_none (I.base.tups b xs e) hn)]; exact I.base.tups b xs e
  · rw [upd_ne (ne_of_none (I.base.frzs b o u e) hn)]; exact I.base.frzs b o u e
  · obtain ⟨more, q⟩ := I.base.tbls b ps e
    exact ⟨more, by rw [upd_ne (ne_of_none q hn)]; exact q⟩
  · rw [upd_ne (Ne.symm nl)]; exact I.free
  · obtain ⟨o, z⟩ := F.cov.c3 x c e
    rw [upd_ne (fun y => by rw [y, F.new] at z; cases z)]
    exact I.freeC x c e
  · obtain ⟨a1, a2, a3⟩ := I.pin p hp
    have z := F.cov.c4 p hp
    exact ⟨a1, by rw [upd_ne (fun y => by rw [y, F.new] at z; cases z)]; exact a2, a3⟩
  · by_cases hb : b = ea
    · subst hb
      rw [upd_same] at e
      cases e
      refine ⟨F.inst, ⟨oe, he⟩, fun h1 h2 ⟨o, J⟩ k => ⟨o, k o J.at_, J.cls, J.no, ?_⟩⟩
      have := J.dict
      revert this
      cases o.dict <;> exact fun z => z
    · rw [upd_ne hb] at e
      exact (I.hok b u e).stay (fun _ _ _ q => q) (fun c q => by rw [upd_ne (ne_of_none q hn)]; exact q) fun c xs q => by rw [upd_ne (ne_of_none q hn)]; exact q
end
/-! ### handlers -/
abbrev TH := Addr → TX
def PHX (X : Cx) (hs : List ExceptHandler) (t : TH) : Prop :=
  ∀ (pins : List (Addr × Obj)) (s : Shared) (σ : St) (H : Hp) (D : Ends) (xk : XKs) (ea C : Addr) (B : Heap), Inv X pins σ H s → XF X pins ea (.ref C) .none H s B → t C D xk σ H → wpAny (model X.prog X.w) X.A (handleBy (.ref ea) X.env hs) (SP X pins D) (XP X pins xk) s
section
variable {X : Cx} {x : Str} {np pos : Pos} {C : Addr} {b0 : Stmt} {body : List Stmt} {hs : List ExceptHandler} {t : Addr → TS} {th : TH}
theorem phx_nil : PHX X [] (fun _ _ _ _ _ => False) := fun _ _ _ _ _ _ _ _ _ _ _ h => h.elim
theorem phx_cons (fx : FnCx X) (hm : X.mg x = some (.ref C)) (ZC : XCls X.K C) (hb : ∀ ea, PSs (X.hnd ea).nox (b0 :: body) (t ea)) (hh : PHX X hs th) (hg : Gl X x := by rfl) (hdb : (x == ("__debug__" : Str)) = false := by decide) :
    PHX X (.ExceptHandler (some (.Name x np)) none (b0 :: body) pos :: hs) (fun D E xk σ H => XCls X.K D ∧ ∃ b, PySem.W.mroIn X.K D (.ref C) = some b ∧ if b = true then (∀ ea, t ea E σ H) else th D E xk σ H) := by
  intro pins s σ H E xk ea D B I F ⟨ZD, b, eb, h⟩
  refine wpAny_handleBy_cons (codeAny_handlers_test (ld_glob (X := X.hnd ea) I.hnd hg hm ?_ hdb)) (by intro q; cases q)
  obtain ⟨ox, J⟩ := F.inst
  refine ZD.matches ZC I.kIn J eb ?_
  cases b with
  | false => exact hh pins s σ H E xk ea D B I F h
  | true =>
    refine codeAny_handlers_suite (F.flight fx I fun h1 I1 F1 => ?_)
    exact wpAny_mono (hb ea pins _ σ H E (I1.hnd.wish _) (h ea)) (fun f s2 q => SP.unhnd I.ok (SP.unwish q)) fun _ _ z => z.elim
theorem phx_as {i : Nat} {n : Str} (fx : FnCx X) (hm : X.mg x = some (.ref C)) (ZC : XCls X.K C) (hN : X.N.Nodup) (hi : X.N[i]? = some n) (hk : X.env.scope.names.lookup n = some .local) (hb : ∀ ea, PSs (X.hnd ea).nox (b0 :: body) (t ea)) (hh : PHX X hs th) (hg : Gl X x := by rfl) (hdb : (x == ("__debug__" : Str)) = false := by decide) :
    PHX X (.ExceptHandler (some (.Name x np)) (some n) (b0 :: body) pos :: hs) (fun D E xk σ H => XCls X.K D ∧ ∃ b, PySem.W.mroIn X.K D (.ref C) = some b ∧ if b = true then (∀ ea, H ea = none → t ea { nx := fun σ' H' => E.nx (σ'.set i none) H', rt := E.rt, bk := fun σ' H' => E.bk (σ'.set i none) H', ct := fun σ' H' => E.ct (σ'.set i none) H' } (σ.set i (some (.ref ea))) (upd H ea (XO D ea))) else th D E xk σ H) := by
  intro pins s σ H E xk ea D B I F ⟨ZD, b, eb, h⟩
  refine wpAny_handleBy_cons (codeAny_handlers_test (ld_glob (X := X.hnd ea) I.hnd hg hm ?_ hdb)) (by intro q; cases q)
  obtain ⟨ox, J⟩ := F.inst
  refine ZD.matches ZC I.kIn J eb ?_
  cases b with
  | false => exact hh pins s σ H E xk ea D B I F h
  | true =>
    refine codeAny_handlers_suite_as (F.flight fx I fun h1 I1 F1 => ?_)
    obtain ⟨I2, hn⟩ := F1.track fx I1
    refine store_ok (v := .ref ea) I2 hN hi (.inl hk) rfl (fun s3 I3 => ?_) (.inr hk)
    refine wpAny_mono (hb ea pins s3 _ _ _ (I3.hnd.wish _) (h ea hn)) (fun f s4 q => ?_) fun _ _ z => z.elim
    have q := SP.unhnd I.ok (SP.unwish q)
    cases f with
    | next => obtain ⟨σ', H', I', q⟩ := q; exact gone_ok I' hN hi hk fun s5 I5 => ⟨_, H', I5, q⟩
    | brk => obtain ⟨σ', H', I', q⟩ := q; exact gone_ok I' hN hi hk fun s5 I5 => ⟨_, H', I5, q⟩
    | cont => obtain ⟨σ', H', I', q⟩ := q; exact gone_ok I' hN hi hk fun s5 I5 => ⟨_, H', I5, q⟩
    | ret u => obtain ⟨v, σ', H', I', r, q⟩ := q; exact gone_ok I' hN hi hk fun s5 I5 => ⟨v, _, H', I5, r, q⟩
/-- try: .. except ..: (no else, no finally) -/
theorem psx_try {h0 : ExceptHandler} {bd : List Stmt} {tb : TX} (fx : FnCx X) (hb : PSXs X bd tb) (hh : PHX X (h0 :: hs) th) : PSX X (.Try bd (h0 :: hs) [] [] pos) (fun D xk σ H => tb D (fun σ' cls H' => ∃ C, cls = .ref C ∧ th C D xk σ' H') σ H) := by
  intro pins s σ H D xk I h
  refine wpAny_Try_except (wpAny_mono (hb pins s σ H D _ I h) (fun f s1 q => ?_) fun e s1 q => ?_)
  · cases f with
    | next => exact wpAny_execs_nil q
    | brk => exact q
    | cont => exact q
    | ret u => exact q
  · obtain ⟨ea, cls, σ1, H1, rfl, I1, S, C, rfl, q⟩ := q
    exact XSt.note fx I1 S I.ok.frames fun h2 B I2 F2 => F2.flight fx I2 fun h3 I3 F3 => hh pins _ σ1 H1 D xk ea C B I3 F3 q
end
end L2

end
section
set_option Elab.async false
set_option linter.all false
set_option maxRecDepth 100000
set_option maxHeartbeats 4000000
namespace L2
open PySem PySem.Spec PyProof.Rows

/-! ### isinstance(e, C), e a caught exception -/
def clsV : V → Value
  | .ref C => .ref C
  | .ty T => .type T
  | _ => .none
section
variable {K : PySem.W.Frag} {D C : Addr} {b : Bool} {T : String}
theorem isx_self : PySem.W.kitOne K (.ref D) (.ref D) = some true := by unfold PySem.W.kitOne; rw [if_pos (by simp)]
theorem isx_ref (ZC : XCls K C) (e : PySem.W.subIn K (.ref D) (.ref C) = some b) (ne : D ≠ C) : PySem.W.kitOne K (.ref D) (.ref C) = some b := by
  unfold PySem.W.kitOne PySem.W.kitCls
  obtain ⟨cd, hc⟩ := mro_cls ZC.mo
  rw [if_neg (by simpa using ne)]
  dsimp only
  rw [hc, ZC.ty, if_pos (by simp)]
  exact e
theorem isx_ty (m : PySem.W.kitMeta T = true) (e : PySem.W.subIn K (.ref D) (.type T) = some b) : PySem.W.kitOne K (.ref D) (.type T) = some b := by
  unfold PySem.W.kitOne PySem.W.kitCls
  rw [if_neg (by intro z; cases (beq_iff_eq.mp z))]
  dsimp only
  rw [if_pos m]
  exact e
end
section
variable {X : Cx}
theorem vals_tys : ∀ {ts : List String} {us : List Value}, Vals (ts.map V.ty) us → us = ts.map Value.type
  | [], _, .nil => rfl
  | a :: as, _, .cons r t => by rw [List.map_cons, vals_tys t]; exact congrArg (· :: _) r
theorem call_isx : CallR X (.builtin "isinstance") (fun xs H Q => ∃ ea D c b, xs = [.ref ea, c] ∧ ((∃ C, c = .ref C) ∨ ∃ T, c = .ty T) ∧ H ea = some (XO D ea) ∧ XCls X.K D ∧ PySem.W.kitOne X.K (.ref D) (clsV c) = some b ∧ Q (.bl b) H) := by
  intro pins s σ H xs us Q I r h
  obtain ⟨ea, D, c, b, rfl, hc, he, Z, e, q⟩ := h
  obtain ⟨u, w', rfl, ru, rw⟩ := vals2 r
  obtain rfl : u = Value.ref ea := ru
  obtain rfl : w' = clsV c := by rcases hc with ⟨C, rfl⟩ | ⟨T, rfl⟩ <;> exact rw
  obtain ⟨J, _⟩ := I.hok ea _ he
  exact PySem.W.kia_one Z.kitx I.kIn J e (fun z => nomatch z) fun tk => ⟨.bl b, H, I.tok tk, rfl, q⟩
/-- isinstance(x, (T, ..)), x a tuple -/
theorem call_isiT : CallR X (.builtin "isinstance") (fun xs H Q => ∃ (a tp : Addr) (ys : List V) (ts : List String) (b : Bool), xs = [.ref a, .ref tp] ∧ H a = some (.tup ys) ∧ H tp = some (.tup (ts.map V.ty)) ∧ PySem.W.kitAny X.K (.type "tuple") (ts.map Value.type) = some b ∧ Q (.bl b) H) := by
  intro pins s σ H xs us Q I r h
  obtain ⟨a, tp, ys, ts, b, rfl, ha, ht, e, q⟩ := h
  obtain ⟨u, w', rfl, ru, rw⟩ := vals2 r
  obtain rfl : u = Value.ref a := ru
  obtain rfl : w' = Value.ref tp := rw
  obtain ⟨_, _, _, o, h1, h2, _⟩ := (show ObjOk X.prog X.w H s.heap a (.tup ys) from I.hok a _ ha)
  obtain ⟨_, its, rt, ⟨c, dd, dt, sl⟩, h3, h4, n, h5⟩ := (show ObjOk X.prog X.w H s.heap tp (.tup (ts.map V.ty)) from I.hok tp _ ht)
  have ei : its = ts.map Value.type := vals_tys rt
  subst ei
  dsimp only at h4 h5
  subst h4 h5
  exact PySem.W.kia_tup PySem.W.kitx_tuple I.kIn ⟨o, h1, h2⟩ h3 e (fun z => nomatch z) fun tk => ⟨.bl b, H, I.tok tk, rfl, q⟩
/-! ### x not in a list of tuples -/
def rInA (K : PySem.W.Frag) (neg : Bool) : R2 := fun x y H Q => ∃ (p : Addr) (as : List Addr) (e : Addr → Bool), y = .ref p ∧ SqL K H p (as.map V.ref) ∧ (∀ a ∈ as, EqH K H 60 (.ref a) x (e a)) ∧ Q (.bl (if neg then !as.any e else as.any e)) H
def refB (e : Addr → Bool) : Value → Bool
  | .ref a => e a
  | _ => false
/-! ### list.count -/
theorem count_eqU {x : V} : ∀ {xs : List V} {us : List Value}, Vals xs us → xs.all flatV = true → us.countP (eqU x) = xs.countP fun y => eqV y x
  | _, _, .nil, _ => rfl
  | y :: xs, u :: us, .cons r t, f => by
    rw [List.all_cons, Bool.and_eq_true] at f
    rw [List.countP_cons, List.countP_cons, eqU_of r f.1, count_eqU t f.2]
theorem mt_count : MtR X "list.count" (fun x vs H Q => ∃ (l : Addr) (xs : List V) (y : V), x = .ref l ∧ vs = [y] ∧ SqL X.K H l xs ∧ flatV y = true ∧ xs.all flatV = true ∧ Q (.int (xs.countP fun z => eqV z y : Nat)) H) := by
  intro pins s σ H x vs v us Q I rx rv h
  obtain ⟨l, xs, y, rfl, rfl, hq, fy, fs, q⟩ := h
  cases rx
  obtain ⟨u, rfl, ru⟩ := rv.one
  obtain ⟨its, r, ⟨⟨c, dd, dt, sl⟩, n, e, h1, h2, h3⟩, hz⟩ := I.list hq
  dsimp only at h1 h2 h3
  subst h1 h2 h3
  refine call_meets F.slot_list_count ⟨_, e, rfl⟩ F.entry_list_count (F.args_list_count_2 _ _) (SeqAt.list_countAt l its.toArray n _ sl u (eqU y)) ⟨e, fun w hw => mem_eqAt ru fy r fs w (by simpa using hw), ?_⟩
  refine ⟨.int _, H, I.tok _, ⟨_, rfl⟩, ?_⟩
  rw [List.toList_toArray, count_eqU r fs]
  exact q
/-! ### f"a {i} b" -/
theorem pe_fmt {a b : Str} {k1 k2 : Nat} {p1 p2 p3 pos : Pos} {e : Expr} {te : TE} (he : PE X e te) (h12 : a.length + b.length + 2000 ≤ sizeLine) :
    PE X (.JoinedStr [.Constant (.str a) k1 p1, .FormattedValue e (-1) none p2, .Constant (.str b) k2 p3] pos) (fun σ H Q => te σ H fun x H1 => ∃ i : Int, x = .int i ∧ i.natAbs.log2 < 1920 ∧ ∀ y, Q (.str y) H1) := by
  intro pins s σ H Q I h
  have hb := b.length
  refine wpAny_JoinedStr ?_
  have el : (Str.empty ++ a).length = a.length := by rw [strLen_append]; show 0 + a.length = a.length; omega
  refine wpAny_Constant_str ⟨a, _, rfl, by rw [el]; omega, ?_⟩
  refine FormattedValue_plain (wpAny_mono (he pins _ σ H _ (I.tok _) h) (fun v s1 ⟨x, H1, I1, r1, i, ex, hi, q⟩ => ?_) fun _ _ z => z)
  subst ex
  obtain ⟨t, rfl⟩ := r1
  have li : (Str.ofString (toString i)).length ≤ 1921 := by
    rw [PySem.ofString_length]
    exact int_text_length_le (by decide) hi
  refine formatField_int_small hi ⟨_, _, rfl, by rw [strLen_append, el]; show a.length + (Str.ofString (toString i)).length ≤ _; omega, ?_⟩
  refine wpAny_Constant_str ⟨b, _, rfl, ?_, ?_⟩
  · rw [strLen_append, strLen_append, el]; show a.length + (Str.ofString (toString i)).length + b.length ≤ _; omega
  · refine ⟨?_, .str _, H1, (I1.tok _), ⟨_, rfl⟩, q _⟩
    rw [strLen_append, strLen_append, el]; show a.length + (Str.ofString (toString i)).length + b.length ≤ _; omega
/-! ### a module's dict of tuples of texts -/
def wordsIn (K : PySem.W.Frag) (d : Addr) (k : Str) (ws : List Str) : Bool := match K.lookup d with
  | some o => !(d == sysModules) && o.cls == .type "dict" && o.dict.isNone && o.slots.isEmpty && (match o.data with
    | .dict es _ => es.toList.all (fun e => isExactStrKey e.key) && (match es.toList.find? (fun e => e.key.isStr k) with
      | some e => (match e.val with
        | .ref t => (match K.lookup t with
          | some o => o.cls == .type "tuple" && (match o.data with | .seq vs _ => decide (vs.size ≤ 1000) && KTD.strsLook vs.toList ws | _ => false)
          | none => false)
        | _ => false)
      | none => false)
    | _ => false)
  | none => false
theorem strs_vals : ∀ {us : List Value} {ws : List Str}, KTD.strsLook us ws = true → Vals (ws.map V.str) us
  | [], [], _ => .nil
  | [], _ :: _, h => by simp [KTD.strsLook] at h
  | u :: us, [], h => by cases u <;> simp [KTD.strsLook] at h
  | u :: us, w :: ws, h => by
    cases u <;> simp [KTD.strsLook] at h
    obtain ⟨rfl, h⟩ := h
    exact .cons ⟨_, rfl⟩ (strs_vals h)
theorem ix_words : IxR X (fun x y H Q => ∃ (d : Addr) (k : Str) (ws : List Str), x = .ref d ∧ y = .str k ∧ wordsIn X.K d k ws = true ∧ ∀ a, SqT X.K H a (ws.map V.str) → Q (.ref a) H) := by
  intro value slice pins s σ H x y v u Q I rx ry h hs
  obtain ⟨d, k, ws, rfl, rfl, hw, q⟩ := h
  obtain rfl : v = Value.ref d := rx
  obtain ⟨tk, rfl⟩ := ry
  unfold wordsIn at hw
  split at hw
  case h_2 => cases hw
  case h_1 o ho =>
    simp only [Bool.and_eq_true] at hw
    obtain ⟨⟨⟨⟨h0, h1⟩, h2⟩, h3⟩, hw⟩ := hw
    split at hw
    case h_2 => cases hw
    case h_1 es ep hd =>
      simp only [Bool.and_eq_true] at hw
      obtain ⟨hall, hw⟩ := hw
      split at hw
      case h_2 => cases hw
      case h_1 e he =>
        split at hw
        case h_2 => cases hw
        case h_1 t ht =>
          split at hw
          case h_2 => cases hw
          case h_1 ot hot =>
            simp only [Bool.and_eq_true] at hw
            obtain ⟨h4, hw⟩ := hw
            split at hw
            case h_2 => cases hw
            case h_1 vs n hvs =>
              simp only [Bool.and_eq_true] at hw
              obtain ⟨h5, h6⟩ := hw
              have hsq : SqT X.K H t (ws.map V.str) := .inr ⟨ot, vs, n, hot, beq_iff_eq.mp h4, hvs, Nat.le_trans (of_decide_eq_true h5) (by decide), strs_vals h6⟩
              have hod := I.kIn d o ho
              have hT : s.TypeIs (.ref d) "dict" := ⟨o, hod, beq_iff_eq.mp h1⟩
              have fin : EP X pins σ Q (.ref t) { s with toks := s.toks + 1 } := ⟨.ref t, H, I.tok _, rfl, q t hsq⟩
              refine subscriptTail_builtinR (x := .ref t) hT slot_dict_getitem.lookup ?_ hs
              unfold getItem
              try with_reducible refine wpAny_holding ?_
              refine wpAny_bind (wpAny_sequenceKey hT (by decide) ?_)
              refine wpAny_bind (wpAny_callSpecial?_slot (name := Str.ofString "__getitem__") hT slot_dict_getitem
                (wpAny_call_entry slot_dict_getitem hT entry_dict_getitem ?_ (args_dict_getitem _ _)))
              show wpAny _ _ (dictGet d (.str k tk) >>= _) _ _ s
              refine wpAny_bind ?_
              unfold dictGet
              try with_reducible refine wpAny_holding ?_
              refine wpAny_bind (wpAny_pyHash_str (wpAny_bind (KTD.kt_dictFind_strs (s := { s with toks := s.toks + 1 }) hod hd (by obtain ⟨l⟩ := es; simpa using hall) ?_)))
              have hf : findBy (fun k v => v.isStr k) es k = some (.ref t) := by
                have : findBy (fun k v => v.isStr k) es k = (es.toList.find? fun e => e.key.isStr k).map (·.val) := by
                  obtain ⟨l⟩ := es
                  simp [findBy]
                rw [this, he]
                exact congrArg some ht
              rw [findBy_of_findIdx?] at hf
              cases hi : es.findIdx? fun e => e.key.isStr k with
              | none => rw [hi] at hf; cases hf
              | some i =>
                rw [hi] at hf
                refine wpAny_bind (wpAny_dictEntries (s := { s with toks := s.toks + 1 }) hod hd (wpAny_pure ?_))
                dsimp only at hf ⊢
                rw [hf]
                exact wpAny_pure ⟨_, rfl, wpAny_pure ⟨rfl, fin⟩⟩
end
/-! ### for .. in enumerate(xs), its body may raise -/
theorem for_enumX {K : PySem.W.Frag} {a : Addr} {xs : List V} {g : TG} {tb : TX} {D : Ends} {xk : XKs} {σ : St} {H : Hp} (Pv : Nat → St → Hp → Prop) (h0 : Pv 0 σ H) (hl : ∀ i σ H, i ≤ xs.length → Pv i σ H → SqL K H a xs)
    (hs : ∀ i x σ H p, xs[i]? = some x → Pv i σ H → H p = none → g (.ref p) σ (upd H p (.tup [.int i, x])) fun σ2 H2 => tb { D with nx := Pv (i + 1), ct := Pv (i + 1), bk := D.nx } xk σ2 H2) (hd : ∀ σ H, Pv xs.length σ H → D.nx σ H) :
    ∃ W : Nat → Nat → St → Hp → Prop, (∃ m, W 0 m σ H) ∧ ∀ i m σ H, W i m σ H →
      ((Ite K a).stop i H ∧ D.nx σ H) ∨ ((Ite K a).go i H ∧ ∃ N : St → Hp → Prop, (∀ σ' H', N σ' H' → ∃ m', m' < m ∧ W (i + 1) m' σ' H') ∧ ∀ x H', (Ite K a).yld i H x H' → g x σ H' fun σ2 H2 => tb { D with nx := N, ct := N, bk := D.nx } xk σ2 H2) := by
  refine ⟨fun i m σ H => Pv i σ H ∧ i + m = xs.length, ⟨xs.length, h0, by omega⟩, ?_⟩
  rintro i m σ H ⟨hp, hm⟩
  by_cases hi : i < xs.length
  · refine .inr ⟨⟨xs, xs[i], hl i σ H (by omega) hp, List.getElem?_eq_getElem hi⟩, Pv (i + 1), fun σ' H' h => ⟨m - 1, by omega, h, by omega⟩, ?_⟩
    rintro x H' ⟨p, hn, rfl, y, rfl, hy⟩
    have e := hy xs (hl i σ H (by omega) hp)
    exact hs i y σ H p e hp hn
  · have : i = xs.length := by omega
    subst this
    exact .inl ⟨⟨xs, hl _ σ H (Nat.le_refl _) hp, Nat.le_refl _⟩, hd σ H hp⟩
/-- a def that never raises as it is asked -/
theorem FnOk.calm {P : Program} {w : World} {K : PySem.W.Frag} {mg : Str → Option Value} {base : Heap} {k : Nat} {f : Addr} {fd : FuncData} {ps : List Str} {sp sp' : Sp} (F : FnOk P w K mg base (CX1 P w) k f fd ps sp)
    (h : ∀ vs H Q E, sp' vs H Q E → sp vs H Q fun _ _ _ => False) : FnOk P w K mg base CX0 k f fd ps sp' :=
  ⟨fun vs H Q E q => F.len vs H Q _ (h vs H Q E q), fun A outer s H args us vs Q E hr e0 hb r hsp => codeAny_mono (F.run A outer s H args us vs Q _ hr e0 hb r (h vs H Q E hsp)) fun r s' q => by
    cases r with
    | error e => obtain ⟨_, _, _, _, _, _, _, _, _, _, _, _, _, _, _, _, z⟩ := q; exact z.elim
    | ok f => cases f <;> exact q⟩
/-! ### inside a comprehension: the module's part by name -/
section
variable {X : Cx} {K : PySem.W.Frag}
theorem ix_tupK (hK : X.K = K) : IxR X (rIxT K) := by subst hK; exact ix_tup
theorem pg_tupK {es : List Expr} {k : Nat} {t : TGs} {n : Nat} {pos : Pos} (hK : X.K = K) (hc : X.calm = true) (h : PGs X es t)
    (hn : (assignEach es X.env).length = n := by rfl) (hst : (assignEach es X.env).findIdx? (·.1) = none := by rfl) : PG X (.Tuple es k pos) (gTup K n t) := by subst hK; exact pg_tup hc h hn hst
end
/-- name = [.. for .. in xs if ..], xs a name's list -/
theorem setcomp_var {K : PySem.W.Frag} {i j : Nat} {ix : List (Option Nat)} {g : TG} {tc : TT} {te : TE} {D : Ends} {σ : St} {H : Hp} {a : Addr} {xs : List V} (hv : σ[j]? = some (some (.ref a))) (hq : SqL K H a xs)
    (h : ∀ D0, H D0 = none → ∃ Pv : Nat → St → List V → Hp → Prop, Pv 0 (blkSt ix σ) [] (upd H D0 (.lst [])) ∧ (∀ i σ ys H, i ≤ xs.length → Pv i σ ys H → SqL K H a xs ∧ H D0 = some (.lst ys)) ∧
      (∀ i x σ ys H, xs[i]? = some x → Pv i σ ys H → g x σ H fun σ2 H2 => tc σ2 H2 fun b H3 =>
        if b = true then te σ2 H3 fun y H4 => H4 D0 = some (.lst ys) ∧ ys.length < sizeLine ∧ Pv (i + 1) σ2 (ys ++ [y]) (upd H4 D0 (.lst (ys ++ [y]))) else Pv (i + 1) σ2 ys H3) ∧
      ∀ σ' ys H', Pv xs.length σ' ys H' → D.nx (σ.set i (some (.ref D0))) H') : tSetComp i (tComp (iList K (tVar j)) ix g tc te) D σ H :=
  ⟨.ref a, hv, a, rfl, ⟨xs, hq⟩, fun D0 hD => let ⟨Pv, h0, h1, h2, h3⟩ := h D0 hD; comp_list (Q := fun x H' => D.nx (σ.set i (some x)) H') Pv h0 h1 h2 h3⟩
end L2

end
section
set_option Elab.async false
set_option linter.all false
set_option maxRecDepth 100000
set_option maxHeartbeats 4000000
namespace L2
open PySem PySem.Spec PyProof.Rows

/-! ### calls that may raise: methods, defs without arguments; their answer stored -/
def tMethX (C : Addr) (m : Str) (sp : Sp) (ta : TE) (t : TA) : TEx := fun xk σ H Q => ta σ H fun x H1 => ∃ a dx fs, x = .ref a ∧ H1 a = some (.ins C dx fs) ∧ fs.lookup m = none ∧ t σ H1 fun vs H2 => sp (.ref a :: vs ++ []) H2 Q fun cls _ H3 => xk σ cls H3
section
variable {X : Cx} {k : Nat} {C : Addr} {ps : List Str} {sp : Sp} {x m : Str} {p pos apos : Pos} {e o : Expr} {es : List Expr} {ta : TE} {t : TA}
end
/-! ### a dict is held still while it is walked -/
def isD : HO → Prop
  | .dK _ => True
  | .dT _ => True
  | _ => False
section
variable {X : Cx} {pins : List (Addr × Obj)} {σ : St} {H : Hp} {s : Shared} {d : Addr} {u v : HO}
theorem Inv.h0 (I : Inv X pins σ H s) (hd : H d = some u) (nz : ∀ o w, u ≠ .frz o w) : ∀ o w, X.H₀ d ≠ some (.frz o w) := fun o w e => by
  have := I.base.frzs d o w e
  rw [hd] at this
  exact nz o w (Option.some.inj this)
end
/-- behind the walk the dict is as it was told -/
def Thaw (H₀ H : Hp) (Pr : Hp → Prop) : Prop := ∃ d o u, H d = some (.frz o u) ∧ (∀ o w, H₀ d ≠ some (.frz o w)) ∧ Pr (upd H d u)
end L2

end
section
set_option Elab.async false
set_option linter.all false
set_option maxRecDepth 100000
set_option maxHeartbeats 4000000
namespace L2
open PySem PySem.Spec PyProof.Rows
/-! ### d.items() walked, whatever its keys are -/
section
variable {prog : Program} {w : World} {A : Around} {E : Value → Shared → Prop} {s : Shared} {it d : Addr} {od : Obj} {es : Array DictEntry} {i ep : Nat} {e : DictEntry} {ok ov : Value}
end
/-- the pairs of a dict as values -/
def PairsOf (H : Hp) (u : HO) (ps : List (V × V)) : Prop := match u with
  | .dK kvs => ps = kvs.map fun p => (kV p.1, p.2)
  | .dT kvs => Paired (fun (kv : List Key × V) (p : V × V) => (∃ q, p.1 = .ref q ∧ H q = some (.tup (kv.1.map kV))) ∧ p.2 = kv.2) kvs ps
  | _ => False
def EsRel (es : List DictEntry) (ps : List (V × V)) : Prop := Paired (fun (e : DictEntry) (p : V × V) => RelV p.1 e.key ∧ RelV p.2 e.val) es ps
theorem EsRel.get : ∀ {es : List DictEntry} {ps : List (V × V)} {i : Nat} {p : V × V}, EsRel es ps → ps[i]? = some p → ∃ e, es[i]? = some e ∧ RelV p.1 e.key ∧ RelV p.2 e.val
  | _, _, _, _, .nil, e => by simp at e
  | _, _, 0, _, .cons r _, e => by simp at e; subst e; exact ⟨_, rfl, r⟩
  | _, _, i + 1, p, .cons _ t, e => by
    obtain ⟨x, h1, h2⟩ := EsRel.get (i := i) (p := p) t (by simpa using e)
    exact ⟨x, by simpa using h1, h2⟩
def Itd (d : Addr) (o : Obj) (ps : List (V × V)) : It :=
  ⟨fun i H => (∃ u, H d = some (.frz o u)) ∧ ∃ p, ps[i]? = some p, fun i H x H' => ∃ q, H q = none ∧ x = .ref q ∧ ∃ p, ps[i]? = some p ∧ H' = upd H q (.tup [p.1, p.2]), fun i H => (∃ u, H d = some (.frz o u)) ∧ ps.length ≤ i⟩
section
variable {X : Cx}
def rItems : V → List V → Hp → VK → Prop := fun x vs H Q => ∃ d u, x = .ref d ∧ vs = [] ∧ H d = some u ∧ isD u ∧ ∀ v, H v = none → Q (.ref v) (upd H v (.ext fun h => h.IsItemsView v d))
def iItems (K : PySem.W.Frag) (to : TE) : TI := fun σ H R => tBM0 K "dict" rItems to σ H fun x H2 => ∃ v d u, x = .ref v ∧ H2 v = some (.ext fun h => h.IsItemsView v d) ∧ H2 d = some u ∧ isD u ∧ ∀ ps o, PairsOf H2 u ps → R (Itd d o ps) (upd H2 d (.frz o u))
theorem PairsOf.keep {H H' : Hp} {u : HO} {ps : List (V × V)} (h : PairsOf H u ps) (k : ∀ b xs, H b = some (.tup xs) → H' b = some (.tup xs)) : PairsOf H' u ps := by
  cases u with
  | dK kvs => exact h
  | dT kvs => exact Paired.mapP h fun kv p ⟨⟨q, e, z⟩, y⟩ => ⟨⟨q, e, k q _ z⟩, y⟩
  | _ => exact h
end
end L2

end
section
set_option Elab.async false
set_option linter.all false
set_option maxRecDepth 100000
set_option maxHeartbeats 4000000
namespace L2
open PySem PySem.Spec PyProof.Rows
section
variable {X : Cx}
/-- a text times a small number -/
def repS (x : Str) (n : Int) : Str := if n < 1 then Str.empty else if (n == 1 || x.length == 0) = true then x else ⟨(List.replicate n.toNat x.cps).foldl (· ++ ·) #[]⟩
end
end L2

end
section
set_option Elab.async false
set_option linter.all false
set_option maxRecDepth 100000
set_option maxHeartbeats 4000000
namespace L2
open PySem PySem.Spec PyProof.Rows
/-! ### a walk over a text -/
def Its (x : Str) : It := ⟨fun i _ => i < x.cps.size, fun i H v H' => H' = H ∧ ∃ c, x.cps[i]? = some c ∧ v = .str ⟨#[c]⟩, fun i _ => i = x.cps.size⟩
theorem turn_str {P : Program} {w : World} {K : PySem.W.Frag} {tg : Expr} (x : Str) (t : Tok) (it : Addr) : Turn P w K tg (Its x) [it] it (fun i h => h.IsStrIter it "str_ascii_iterator" x t i) where
  mem := by simp
  obj := fun i h st b hb => by
    have e : b = it := by simpa using hb
    subst e
    obtain ⟨o, e, c, d⟩ := st
    exact ⟨o, e, fun v z => by rw [d] at z; cases z⟩
  keep := fun i h h' st k => let ⟨o, e, r⟩ := st; ⟨o, k it (by simp) o e, r⟩
  item := by
    intro X hP hw hK hc i pins s σ H E I hf st hg
    subst hP hw hK
    obtain ⟨f0, f1, f2, f3, f4, f5⟩ := hf it (by simp)
    have W := Walks.strAscii (prog := X.prog) (w := X.w) (I.ok.hd hc) it x t
    refine W.item i s _ _ hg st fun v h' tk hv st' kk => ?_
    obtain ⟨c, u, hc, rfl⟩ := hv
    have I1 : Inv X pins σ H { s with heap := h', toks := tk } := I.turned (fun b o hb e => kk b o (by simpa using hb) e) f0 f1 f3 f4 f5
    obtain ⟨o, e, c1, d1⟩ := id st'
    exact ⟨_, rfl, go_of (s := { s with heap := h', toks := tk }) e c1 d1 (by decide) ⟨.str ⟨#[c]⟩, H, I1, ⟨u, rfl⟩, ⟨rfl, c, hc, rfl⟩, st', fun b hb => (hf b hb).1⟩⟩
  done := by
    intro X hP hw hK hc i pins s σ H E I hf st hg
    subst hP hw hK
    obtain rfl : i = x.cps.size := hg
    obtain ⟨f0, f1, f2, f3, f4, f5⟩ := hf it (by simp)
    have W := Walks.strAscii (prog := X.prog) (w := X.w) (I.ok.hd hc) it x t
    exact W.done s _ _ st fun h' tk kk => ⟨rfl, I.turned (t' := tk) (fun b o hb e => kk b o (by simpa using hb) e) f0 f1 f3 f4 f5⟩
  self := fun _ _ _ _ _ st h => wpAny_pyIter_striter_ascii st h
section
variable {X : Cx} {tg : Expr}
def iStr (tl : TE) : TI := fun σ H R => tl σ H fun v H1 => ∃ x, v = .str x ∧ x.cps.all (· < 128) = true ∧ R (Its x) H1
theorem pi_str {l : Expr} {tl : TE} (hl : PE X l tl) : PI X tg l (iStr tl) := by
  intro pins s σ H R I h
  refine thn (hl pins s σ H _ I h) fun v s1 ⟨x, H1, I1, r1, q1⟩ => ?_
  obtain ⟨a, e, ha, q⟩ := q1
  subst e
  obtain ⟨t, rfl⟩ := r1
  refine wpAny_pyIter_ascii ha ?_
  refine ⟨s1.heap.objs.size, [s1.heap.objs.size], _, _, H1, rfl, I1.kept (t' := s1.toks) fun b o e => Heap.get?_push_of_some _ e, turn_str a t _, ⟨_, Heap.get?_push_size _ rfl, rfl, rfl⟩, fun b hb => ?_, q⟩
  have e : b = s1.heap.objs.size := by simpa using hb
  subst e
  exact I1.fpOk (Nat.le_refl _) (I1.hok.fresh (Nat.le_refl _))
end
theorem for_str {x : Str} {g : TG} {tb : TS} {D : Ends} {σ : St} {H : Hp} (Pv : Nat → St → Hp → Prop) (h0 : Pv 0 σ H)
    (hs : ∀ i c σ H, x.cps[i]? = some c → Pv i σ H → g (.str ⟨#[c]⟩) σ H fun σ2 H2 => tb { D with nx := Pv (i + 1), ct := Pv (i + 1), bk := D.nx } σ2 H2) (hd : ∀ σ H, Pv x.cps.size σ H → D.nx σ H) :
    ∃ W : Nat → Nat → St → Hp → Prop, (∃ m, W 0 m σ H) ∧ ∀ i m σ H, W i m σ H →
      ((Its x).stop i H ∧ D.nx σ H) ∨ ((Its x).go i H ∧ ∃ N : St → Hp → Prop, (∀ σ' H', N σ' H' → ∃ m', m' < m ∧ W (i + 1) m' σ' H') ∧ ∀ v H', (Its x).yld i H v H' → g v σ H' fun σ2 H2 => tb { D with nx := N, ct := N, bk := D.nx } σ2 H2) := by
  refine ⟨fun i m σ H => m = x.cps.size - i ∧ i ≤ x.cps.size ∧ Pv i σ H, ⟨x.cps.size, by simp, Nat.zero_le _, h0⟩, ?_⟩
  rintro i m σ H ⟨rfl, hi, p⟩
  by_cases hlt : i < x.cps.size
  · refine .inr ⟨hlt, Pv (i + 1), fun σ' H' p' => ⟨x.cps.size - (i + 1), by omega, rfl, hlt, p'⟩, fun v H' y => ?_⟩
    obtain ⟨e, c, hc, ev⟩ := y
    subst e ev
    exact hs i c σ _ hc p
  · have e : i = x.cps.size := by omega
    subst e
    exact .inl ⟨rfl, hd σ H p⟩
/-! ### methods of texts -/
section
variable {X : Cx}
theorem mt_strip : MtR X "str.strip" (fun x vs H Q => ∃ a b, x = .str a ∧ vs = [.str b] ∧ a.length ≤ sizeLine ∧ Q (.str (PySem.Txt.stripChars a b)) H) := by
  intro pins s σ H x vs v us Q I rx rv h
  obtain ⟨a, b, rfl, rfl, hz, q⟩ := h
  obtain ⟨t, rfl⟩ := rx
  obtain ⟨u, rfl, t', rfl⟩ := rv.one
  exact PySem.W.KXw.stripChars rfl hz fun t' k => ⟨.str _, H, I.tok _, ⟨_, rfl⟩, q⟩
theorem mt_index : MtR X "str.index" (fun x vs H Q => ∃ a b i r, x = .str a ∧ vs = [.str b] ∧ Builtin.Str.occurrences a b 0 a.length 1 = i :: r ∧ Q (.int (i : Nat)) H) := by
  intro pins s σ H x vs v us Q I rx rv h
  obtain ⟨a, b, i, r, rfl, rfl, ho, q⟩ := h
  obtain ⟨t, rfl⟩ := rx
  obtain ⟨u, rfl, t', rfl⟩ := rv.one
  exact SC.index ho ⟨.int _, H, I.tok _, ⟨_, rfl⟩, q⟩
theorem mt_partition : MtR X "str.partition" (fun x vs H Q => ∃ a b, x = .str a ∧ vs = [.str b] ∧ (b.length == 0) = false ∧ a.length ≤ sizeLine ∧
    ∀ p, H p = none → Q (.ref p) (upd H p (.tup [.str (Txt.partition a b).1, .str (Txt.partition a b).2.1, .str (Txt.partition a b).2.2]))) := by
  intro pins s σ H x vs v us Q I rx rv h
  obtain ⟨a, b, rfl, rfl, hy, hz, q⟩ := h
  obtain ⟨t, rfl⟩ := rx
  obtain ⟨u, rfl, t', rfl⟩ := rv.one
  refine call_meets F.slot_str_partition (typeIs_str _ _ _) F.entry_str_partition (F.args_str_partition_2 _ _) (meets_str_partition a b t t' hy hz) ?_
  have q' := q _ (I.hok.fresh (Nat.le_refl _))
  unfold Txt.partition at q'
  revert q'
  cases Builtin.Str.occurrences a b 0 a.length 1 with
  | nil =>
    intro q'
    refine ⟨.ref s.heap.objs.size, _, ?_, rfl, q'⟩
    refine I.laid (o := .tup _) (fun b ob z => Heap.get?_push_of_some _ z) (Nat.le_refl _) ⟨(by show 3 ≤ sizeLine; decide), _, .cons ?_ (.cons ?_ (.cons ?_ .nil)), IsTup.new _ _⟩
    all_goals exact ⟨_, rfl⟩
  | cons i r =>
    intro q'
    refine ⟨.ref s.heap.objs.size, _, ?_, rfl, q'⟩
    refine I.laid (o := .tup _) (fun b ob z => Heap.get?_push_of_some _ z) (Nat.le_refl _) ⟨(by show 3 ≤ sizeLine; decide), _, .cons ?_ (.cons ?_ (.cons ?_ .nil)), IsTup.new _ _⟩
    all_goals exact ⟨_, rfl⟩
/-! ### f"{x} {i}" -/
def tFmt2 (b : Str) (te te' : TE) : TE := fun σ H Q => te σ H fun x H1 => ∃ a : Str, x = .str a ∧ a.length ≤ 1000 ∧ te' σ H1 fun y H2 => ∃ i : Int, y = .int i ∧ i.natAbs.log2 < 1920 ∧ Q (.str (a ++ b ++ toString i)) H2
theorem pe_fmt2 {b : Str} {k1 : Nat} {p1 p2 p3 pos : Pos} {e e' : Expr} {te te' : TE} (he : PE X e te) (he' : PE X e' te') (h12 : b.length + 4000 ≤ sizeLine) :
    PE X (.JoinedStr [.FormattedValue e (-1) none p1, .Constant (.str b) k1 p2, .FormattedValue e' (-1) none p3] pos) (tFmt2 b te te') := by
  intro pins s σ H Q I h
  refine wpAny_JoinedStr ?_
  refine FormattedValue_plain (wpAny_mono (he pins _ σ H _ I h) (fun v s1 ⟨x, H1, I1, r1, a, ex, ha, q⟩ => ?_) fun _ _ z => z)
  subst ex
  obtain ⟨t, rfl⟩ := r1
  have ea : Str.empty ++ a = a := by
    obtain ⟨c⟩ := a
    show Str.mk (#[] ++ c) = Str.mk c
    rw [Array.empty_append]
  refine wpAny_formatField_str ?_ ?_ (by omega)
  all_goals
    refine ⟨a, _, rfl, by rw [ea]; omega, ?_⟩
    rw [ea]
    refine wpAny_Constant_str ⟨b, _, rfl, by rw [strLen_append]; omega, ?_⟩
    refine FormattedValue_plain (wpAny_mono (he' pins _ σ H1 _ (by first | exact (I1.tok _) | exact ((I1.tok _).tok _)) q) (fun v s2 ⟨y, H2, I2, r2, i, ey, hi, q2⟩ => ?_) fun _ _ z => z)
    subst ey
    obtain ⟨t, rfl⟩ := r2
    have li : (Str.ofString (toString i)).length ≤ 1921 := by
      rw [PySem.ofString_length]
      exact int_text_length_le (by decide) hi
    refine formatField_int_small hi ⟨_, _, rfl, by rw [strLen_append, strLen_append]; show a.length + b.length + (Str.ofString (toString i)).length ≤ _; omega, ?_⟩
    exact ⟨by rw [strLen_append, strLen_append]; show a.length + b.length + (Str.ofString (toString i)).length ≤ _; omega, .str _, H2, (I2.tok _), ⟨_, rfl⟩, q2⟩
end
/-! ### a module's tuple of texts -/
def tupIn (K : PySem.W.Frag) (a : Addr) (ws : List Str) : Bool := match K.lookup a with
  | some o => o.cls == .type "tuple" && (match o.data with | .seq vs _ => decide (vs.size ≤ 1000) && KTD.strsLook vs.toList ws | _ => false)
  | none => false
theorem tupIn.sq {K : PySem.W.Frag} {a : Addr} {ws : List Str} (h : tupIn K a ws = true) (H : Hp) : SqT K H a (ws.map V.str) := by
  unfold tupIn at h
  split at h
  case h_2 => cases h
  case h_1 o ho =>
    simp only [Bool.and_eq_true] at h
    obtain ⟨h1, h⟩ := h
    split at h
    case h_2 => cases h
    case h_1 vs n hd =>
      simp only [Bool.and_eq_true, decide_eq_true_eq] at h
      exact .inr ⟨o, vs, n, ho, beq_iff_eq.mp h1, hd, Nat.le_trans h.1 (by decide), strs_vals h.2⟩
end L2

end
section
set_option Elab.async false
set_option linter.all false
set_option maxRecDepth 100000
set_option maxHeartbeats 4000000
/-! COMPREHENSIONS whose element may raise -/
namespace L2
open PySem PySem.Spec PyProof.Rows
section
variable {prog : Program} {w : World} {A : Around} {R : Result → Shared → Prop} {s : Shared}
theorem compLoop_goX {elt target iter : Expr} {ifs : List Expr} {scope : Scope} {pos : Pos} {it acc : Value} {env : Env} (I : Nat → Shared → Prop)
    (turn : ∀ n s, I n s → wpAny (model prog w) A (pyNext it) (fun r s₁ => match r with
      | none => R (.ok .next) s₁
      | some v => wpAny (model prog w) A (letOwnedTupleGo target it v) (fun _ s₂ => wpAny (model prog w) A (assign target env v) (fun _ s₃ =>
          wpAny (model prog w) A (forIn ifs true fun c r => if r = true then do let ok ← isTrue c env (eval c env); pure (ForInStep.yield ok) else pure (ForInStep.yield r)) (fun ok s₄ =>
            if ok = true then wpAny (model prog w) A (eval elt env) (fun x s₅ =>
              wpAny (model prog w) A (call (.builtin "list.append") [acc, x]) (fun _ s₆ => ∃ m, m < n ∧ I m s₆) FX s₅) (notedBy (model prog w) A env fun x s' => R (.error x) s') s₄
            else ∃ m, m < n ∧ I m s₄) FX s₃) FX s₂) FX s₁) FX s)
    (n : Nat) (h : I n s) :
    codeAny (model prog w) A (.compLoop (.ListComp elt [⟨target, iter, ifs, 0⟩] scope pos) 0 it acc env) R s := by
  refine codeAny_loop rfl I (fun n s hI => ?_) n h
  show wpAny _ A ((compTurn (.ListComp elt [⟨target, iter, ifs, 0⟩] scope pos) 0 it acc env).onRaise (fun x => do noteFrame x env; theTreesLotGoes x)) _ _ s
  refine wpAny_noted ?_
  rw [compTurn_list]
  refine wpAny_bind (wpAny_standAt (wpAny_bind (wpAny_mono (turn n s hI) (fun r s₁ h₁ => ?_) fun _ _ f => f.elim)))
  cases r with
  | none => exact wpAny_pure h₁
  | some v =>
    refine wpAny_bind (wpAny_mono h₁ (fun _ s₂ h₂ => wpAny_bind (wpAny_mono h₂ (fun _ s₃ h₃ => wpAny_bind (wpAny_mono h₃ (fun ok s₄ h₄ => ?_) fun _ _ f => f.elim)) fun _ _ f => f.elim)) fun _ _ f => f.elim)
    cases ok with
    | false => exact wpAny_pure ⟨rfl, h₄⟩
    | true =>
      exact wpAny_bind (wpAny_bind (wpAny_mono h₄ (fun x s₅ h₅ => wpAny_bind (wpAny_mono h₅ (fun _ s₆ h₆ => wpAny_pure (wpAny_pure ⟨rfl, h₆⟩)) fun _ _ f => f.elim)) fun _ _ z => z))
end
/-- an expression in a block that may raise -/
abbrev TEb := (Value → Hp → Prop) → St → Hp → VK → Prop
def PEB (Y : Cx) (e : Expr) (t : TEb) : Prop :=
  ∀ (pins : List (Addr × Obj)) (s : Shared) (σ : St) (H : Hp) (Q : VK) (xk : Value → Hp → Prop), Inv Y pins σ H s → t xk σ H Q →
    wpAny (model Y.prog Y.w) Y.A (eval e Y.env) (EP Y pins σ Q) (fun ev s' => ∃ s1 H1, Inv Y pins σ H1 s1 ∧ CX1 Y.prog Y.w Y.stack H1 s1 (fun cls _ H2 => xk cls H2) ev s') s
def tCallB (sp : Sp) (t : TA) : TEb := fun xk σ H Q => t σ H fun vs H1 => sp (vs ++ []) H1 Q fun cls _ H2 => xk cls H2
section
variable {X : Cx} {k : Nat} {ps : List Str} {sp : Sp} {x : Str} {p pos : Pos} {e : Expr} {es : List Expr} {t : TA}
theorem peb_fn (D : Df X.prog X.w X.K X.mg X.base (CX1 X.prog X.w) k x ps sp) (hr : Room k X.A) (ha : PA X.nox (e :: es) t) (hg : Gl X x := by rfl) (hdb : (x == ("__debug__" : Str)) = false := by decide)
    (he : starEach (e :: es) X.env = (false, eval e X.env) :: starEach es X.env := by rfl) (hpl : (backTo pos (starEach es X.env)).any (·.1) = false := by rfl) : PEB X (.Call (.Name x p) (e :: es) [] pos) (tCallB sp t) := by
  obtain ⟨f, fd, hm, hk, hb, F⟩ := D.ex
  intro pins s σ H Q xk I h
  refine wpAny_Call_Name_kw (ld_glob I hg hm ?_ hdb)
  refine PySem.W.callWith_K (h₀ := X.base) I.ok.mod.kin hk (wpAny_mono (ha pos pins s σ H _ (I.wish _) h) (fun us s1 ⟨vs, H1, I1, r, q⟩ => ⟨I1.unwish.kIn, ?_⟩) fun _ _ z => z.elim) he hpl
  have r2 : Vals (vs ++ []) (us ++ []) := r.append .nil
  have hl : (us ++ []).length = ps.length := by rw [← r2.length]; exact F.len _ _ _ _ q
  refine wpAny_call (codeAny_mono (F.run X.A X.stack s1 H1 ⟨us, []⟩ (us ++ []) (vs ++ []) Q _ hr I1.unwish.env0 (hb s1 us I1.unwish.kIn hl) r2 q) fun r s' hq => ?_)
  cases r with
  | error e => exact ⟨s1, H1, I1.unwish, hq⟩
  | ok fl =>
    cases fl with
    | ret u => exact I1.unwish.after hq
    | next => exact False.elim hq
    | brk => exact False.elim hq
    | cont => exact False.elim hq
end
theorem frames_let {h h' B B' : Heap} {C : Addr} (hC : B.get? C ≠ none) (no : ∀ b, B.get? b = none → B'.get? b = none) (k : ∀ b, b ≠ C → h'.get? b = h.get? b) : ∀ {l : List Env}, h.FunFrames B l → h'.FunFrames B' l
  | [], _ => trivial
  | env :: _, ⟨hk, ⟨L, o, hf, hn, ho, hd⟩, hr⟩ => ⟨hk, ⟨L, o, hf, no L hn, (k L fun e => hC (by rw [← e]; exact hn)).trans ho, hd⟩, frames_let hC no k hr⟩
section
variable {X : Cx} {pins : List (Addr × Obj)} {σ : St} {H : Hp} {s : Shared} {ea : Addr} {cls fl : Value} {B h' : Heap} {C : Addr}
/-- the block's names are let go: the exception flies on -/
theorem XF.letgo (F : XF X pins ea cls fl H s B) (hB : ∃ o, B.get? C = some o) (hn : H C = none) (h0 : X.s₀.heap.objs.size ≤ C) (hc : ∀ x c, X.env.cells.lookup x = some c → c ≠ C) (hp : ∀ p ∈ X.pn ++ pins, p.1 ≠ C)
    (sb : Heap.SameBut C s.heap h') : XF X pins ea cls fl H { s with heap := h' } (PySem.W.hideAll B [C]) := by
  have ge : ∀ {b o}, B.get? b = some o → b ≠ C → (PySem.W.hideAll B [C]).get? b = some o := fun z n => PySem.W.hideAll_get _ z (by simpa using n)
  have no : ∀ {b}, B.get? b = none → (PySem.W.hideAll B [C]).get? b = none := fun {b} z => by
    cases q : (PySem.W.hideAll B [C]).get? b with
    | none => rfl
    | some o => have := PySem.W.of_hideAll _ q; rw [z] at this; cases this
  have s0 : ∀ {b o}, X.s₀.heap.get? b = some o → b ≠ C := fun z e => by have := Heap.lt_size z; rw [e] at this; exact absurd (Nat.lt_of_lt_of_le this h0) (Nat.lt_irrefl _)
  obtain ⟨oC, hC⟩ := hB
  have hsC := F.st C oC hC
  refine ⟨⟨fun b o z n hb => ge (F.cov.c1 b o z n hb) (s0 z), fun b hb => ?_, fun x c z => ?_, fun q hq => ge (F.cov.c4 q hq) (hp q hq), fun b o z hb => ?_⟩, no F.new, fun b o z => ?_, ?_, ?_⟩
  · obtain ⟨o, z⟩ := F.cov.c2 b hb
    exact ⟨o, ge z fun e => hb (by rw [e]; exact hn)⟩
  · obtain ⟨o, y⟩ := F.cov.c3 x c z
    exact ⟨o, ge y (hc x c z)⟩
  · obtain ⟨o', y⟩ := F.cov.c5 b o z hb
    exact ⟨o', ge y (s0 z)⟩
  · have nb : b ≠ C := fun e => by rw [e, PySem.W.hideAll_none [C] (by simp)] at z; cases z
    have z' := PySem.W.of_hideAll _ z
    exact (sb.2 b nb).trans (F.st b o z')
  · exact frames_let (by rw [hC]; simp) (fun b z => no z) (fun b nb => sb.2 b nb) F.fun_
  · obtain ⟨oe, vs, T, oT, ts, he, h1, h2, hd, h3, hT0, nT, hT, dT, h4⟩ := F.tr
    have ne : ea ≠ C := fun e => by have := F.new; rw [e, hC] at this; cases this
    have nTC : T ≠ C := fun e => by rw [e, hC] at hT0; cases hT0
    exact ⟨oe, vs, T, oT, ts, (sb.2 ea ne).trans he, h1, h2, hd, h3, no hT0, nT, (sb.2 T nTC).trans hT, dT, h4⟩
end
/-- the block from its iterator on, an element may raise -/
theorem comp_blkX {X : Cx} {elt target iter : Expr} {ifs : List Expr} {scope : Scope} {cl : List (Str × Addr)} {pos : Pos} {NB : List Str} {ix : List (Option Nat)} {g : TG} {tc : TT} {te : TEb} {pins : List (Addr × Obj)} {σ : St} {H2 : Hp} {s2 : Shared}
    {it : Addr} {fp : List Addr} {tn : Nat → Heap → Prop} {J : It} {Q : VK} {RR : Value → Addr → Result → Shared → Prop} {E : Value → Shared → Prop} {xk : XKs} (fx : FnCx X)
    (hc : X.calm = true) (S : CmpScope X scope cl NB ix)
    (hg : ∀ C s H fp pins, PG (X.blk scope cl C NB s H fp pins) target g) (ht : ∀ C s H fp pins, PCs (X.blk scope cl C NB s H fp pins) ifs tc) (he : ∀ C s H fp pins, PEB (X.blk scope cl C NB s H fp pins) elt te)
    (I2 : Inv X pins σ H2 s2) (T : Turn X.prog X.w X.K target J fp it tn) (st2 : tn 0 s2.heap) (f2 : ∀ b ∈ fp, FpOk X pins H2 b)
    (hr : ∀ D, H2 D = none → ∃ W : Nat → Nat → St → List V → Hp → Prop,
      (∃ m, W 0 m (blkSt ix σ) [] (upd H2 D (.lst []))) ∧ ∀ i m σ' ys H, W i m σ' ys H → H D = some (.lst ys) ∧
        ((J.stop i H ∧ Q (.ref D) H) ∨ (J.go i H ∧ ∃ N : St → List V → Hp → Prop, (∀ σ2 ys2 H2, N σ2 ys2 H2 → ∃ m', m' < m ∧ W (i + 1) m' σ2 ys2 H2) ∧ ∀ x H', J.yld i H x H' → g x σ' H' fun σ2 H2 => tc σ2 H2 fun b H3 =>
          if b = true then te (xk σ) σ2 H3 fun y H4 => H4 D = some (.lst ys) ∧ ys.length < sizeLine ∧ N σ2 (ys ++ [y]) (upd H4 D (.lst (ys ++ [y])))
          else N σ2 ys H3)))
    (hRR : ∀ D C H' s' m, Inv X pins σ H' s' → s'.heap.Ns C m → H' C = none → X.s₀.heap.objs.size ≤ C → C ≠ X.env.locals → (∀ x c, X.env.cells.lookup x = some c → c ≠ C) → (∀ p ∈ X.pn ++ pins, p.1 ≠ C) → Q (.ref D) H' → RR (.ref D) C (.ok .next) s')
    (hRX : ∀ D C ea cls σ' H' s' m B fl, Inv X pins σ' H' s' → XF X pins ea cls fl H' s' B → (∃ o, B.get? C = some o) → s'.heap.Ns C m → H' C = none → X.s₀.heap.objs.size ≤ C → C ≠ X.env.locals → (∀ x c, X.env.cells.lookup x = some c → c ≠ C) → (∀ p ∈ X.pn ++ pins, p.1 ≠ C) → xk σ' cls H' →
      RR (.ref D) C (.error (.ref ea)) s') :
    wpAny (model X.prog X.w) X.A (newList []) (fun acc s₃ => wpAny (model X.prog X.w) X.A (newFunctionEnv scope X.env.globals cl [] X.env.qual none .none (some X.env)) (fun cenv s₄ =>
      codeAny (model X.prog X.w) X.A (.compStart (.ListComp elt [⟨target, iter, ifs, 0⟩] scope pos) 0 (.ref it) acc { cenv with scope := relabel scope X.env }) (RR acc cenv.locals) s₄) E s₃) E s2 := by
  refine wpAny_newObj_type (wpAny_newFunctionEnv S.nocell (by intro y hy; simp at hy) (fun h₁ hns₁ hsb₁ => ?_) S.kind)
  dsimp only at hns₁ hsb₁ ⊢
  have hD : H2 s2.heap.objs.size = none := I2.fresh
  have I3 : Inv X pins σ (upd H2 s2.heap.objs.size (.lst [])) { s2 with heap := s2.heap.push { cls := .type "list", dict := none, data := .seq ([] : List Value).toArray }, toks := s2.toks } :=
    I2.lnew (ys := []) (its := []) .nil (Nat.zero_le _)
  generalize hs3 : ({ s2 with heap := s2.heap.push { cls := .type "list", dict := none, data := .seq ([] : List Value).toArray }, toks := s2.toks } : Shared) = s3 at I3
  have eh : s3.heap = s2.heap.push { cls := .type "list", dict := none, data := .seq ([] : List Value).toArray } := by rw [← hs3]
  have f3 : ∀ b ∈ fp, FpOk X pins (upd H2 s2.heap.objs.size (.lst [])) b := fun b hb => by
    obtain ⟨o, e, _⟩ := T.obj _ _ st2 b hb
    exact ⟨by rw [upd_ne (Nat.ne_of_lt (Heap.lt_size e))]; exact (f2 b hb).1, (f2 b hb).2⟩
  have old3 : ∀ b o, s2.heap.get? b = some o → s3.heap.get? b = some o := fun b o e => by rw [eh]; exact Heap.get?_push_of_some _ e
  have st3 : tn 0 s3.heap := T.keep _ _ _ st2 fun b _ o e => old3 b o e
  rw [← eh] at hns₁ hsb₁ ⊢
  have I4 := Inv.blk (t := s2.toks + ([] : List (Str × Value)).length) S I3 f3 (fun b hb => T.obj _ _ st3 b hb) hns₁ hsb₁
  have e4 : ({ s3 with heap := h₁, toks := s2.toks + ([] : List (Str × Value)).length } : Shared) = { s2 with heap := h₁, toks := s2.toks + ([] : List (Str × Value)).length } := by rw [← hs3]
  rw [e4] at I4
  have st4 : tn 0 h₁ := T.keep _ _ _ st3 fun b _ o e => hsb₁.extBut b o (Nat.ne_of_lt (Heap.lt_size e)) (Heap.get?_push_of_some _ e)
  obtain ⟨W, ⟨m0, w0⟩, turn⟩ := hr _ hD
  have cL : s3.heap.objs.size ≠ X.env.locals := fun z => by
    have := I3.lt
    rw [← z] at this
    exact absurd this (Nat.lt_irrefl _)
  have cC : ∀ x c, X.env.cells.lookup x = some c → c ≠ s3.heap.objs.size := fun x c e z => by
    obtain ⟨v, oc, hoc, _⟩ := I3.cell x c e
    have := Heap.lt_size hoc
    rw [z] at this
    exact absurd this (Nat.lt_irrefl _)
  have cP : ∀ p ∈ X.pn ++ pins, p.1 ≠ s3.heap.objs.size := fun p hp z => by
    have := Heap.lt_size (I3.pin p hp).1
    rw [z] at this
    exact absurd this (Nat.lt_irrefl _)
  have stat : ∀ {H' : Hp}, (∀ b ∈ fp, H' b = none) → ∀ b ∈ fp, FpOk (X.blk scope cl s3.heap.objs.size NB s3 (upd H2 s2.heap.objs.size (.lst [])) fp pins) [] H' b := fun hn b hb => by
    obtain ⟨o, e, _⟩ := T.obj _ _ st3 b hb
    refine ⟨hn b hb, Nat.ne_of_lt (Heap.lt_size e), fun z => ?_, .inl hb, fun x c q => (f3 b hb).2.2.2.2.1 x c (S.cells.get q), fun p hp => (f3 b hb).2.2.2.2.2 p ?_⟩
    · rcases List.mem_cons.mp (I3.stkSub b z) with q | q
      · exact (f3 b hb).2.1 q
      · exact (f3 b hb).2.2.1 q
    · have : p ∈ (X.pn ++ pins) ++ [] := hp
      simpa using this
  have loop : codeAny (model X.prog X.w) X.A (.compLoop (.ListComp elt [⟨target, iter, ifs, 0⟩] scope pos) 0 (.ref it) (.ref s2.heap.objs.size) (compEnvC scope cl s3.heap.objs.size X.env))
      (RR (.ref s2.heap.objs.size) s3.heap.objs.size) { s2 with heap := h₁, toks := s2.toks + ([] : List (Str × Value)).length } := by
    refine compLoop_goX (fun n s' => ∃ i σ' ys H', Inv (X.blk scope cl s3.heap.objs.size NB s3 (upd H2 s2.heap.objs.size (.lst [])) fp pins) [] σ' H' s' ∧ tn i s'.heap ∧ (∀ b ∈ fp, H' b = none) ∧ W i n σ' ys H') ?_ m0 ⟨0, _, [], _, I4, st4, fun b hb => (f3 b hb).1, w0⟩
    rintro n s5 ⟨i, σ5, ys, H5, I5, st5, fr5, w5⟩
    obtain ⟨hD5, (⟨stop, qn⟩ | ⟨go, N, hN, step⟩)⟩ := turn i n σ5 ys H5 w5
    · refine thn (T.done (X.blk scope cl s3.heap.objs.size NB s3 (upd H2 s2.heap.objs.size (.lst [])) fp pins) rfl rfl rfl hc i [] s5 σ5 H5 FX I5 (stat fr5) st5 stop) fun r s6 ⟨hr6, I6⟩ => ?_
      subst hr6
      obtain ⟨m6, hn6, _⟩ := I6.loc
      exact hRR _ _ H5 s6 m6 (I3.unblk f3 I6) hn6 I6.free I3.sz cL cC cP qn
    · refine thn (T.item (X.blk scope cl s3.heap.objs.size NB s3 (upd H2 s2.heap.objs.size (.lst [])) fp pins) rfl rfl rfl hc i [] s5 σ5 H5 FX I5 (stat fr5) st5 go) fun r s6 ⟨u, hr6, h6⟩ => ?_
      subst hr6
      refine thn h6 fun _ s7 ⟨x, H7, I7, r7, y7, st7, fr7⟩ => ?_
      have I7' := I7.pinned (stat fr7) (T.obj _ _ st7)
      refine thn (hg _ _ _ _ _ _ s7 σ5 H7 x u _ I7' r7 (step x H7 y7)) fun _ s8 ⟨σ8, H8, I8, q8⟩ => ?_
      refine thn (ht _ _ _ _ _ _ s8 σ8 H8 _ I8 q8) fun b s9 ⟨H9, I9, q9⟩ => ?_
      have fin : ∀ {s' : Shared} {H' : Hp}, Inv (X.blk scope cl s3.heap.objs.size NB s3 (upd H2 s2.heap.objs.size (.lst [])) fp pins) ([] ++ pinsAt fp s7.heap) σ8 H' s' → tn (i + 1) s'.heap ∧ ∀ b ∈ fp, H' b = none := fun {s' H'} I' => by
        refine ⟨T.keep _ _ _ st7 fun b hb o e => (I'.pin (b, o) (List.mem_append_right _ (List.mem_append_right _ (mem_pinsAt hb e)))).1, fun b hb => ?_⟩
        obtain ⟨o, e, d⟩ := T.obj _ _ st7 b hb
        exact (I'.pin (b, o) (List.mem_append_right _ (List.mem_append_right _ (mem_pinsAt hb e)))).2.1
      cases b with
      | false =>
        obtain ⟨m', hm, w9⟩ := hN σ8 ys H9 (show N σ8 ys H9 from q9)
        obtain ⟨st9, fr9⟩ := fin I9
        exact ⟨m', hm, i + 1, σ8, ys, H9, I9.unpinned, st9, fr9, w9⟩
      | true =>
        refine wpAny_mono (he _ _ _ _ _ _ s9 σ8 H9 _ (xk σ) I9 q9) (fun y s10 ⟨vy, H10, I10, r10, hD10, hl10, n10⟩ => ?_) fun ev s10 ⟨s1, H1, I1, hcx⟩ => ?_
        · obtain ⟨m', hm, w10⟩ := hN _ _ _ n10
          refine thn (mt_append _ s10 σ8 H10 (.ref s2.heap.objs.size) [vy] (.ref s2.heap.objs.size) [y] (fun v H' => v = .non ∧ H' = upd H10 s2.heap.objs.size (.lst (ys ++ [vy]))) I10 rfl (.cons r10 .nil) ⟨_, ys, vy, rfl, rfl, hD10, hl10, rfl, rfl⟩) fun _ s11 ⟨_, H11, I11, _, _, e11⟩ => ?_
          subst e11
          obtain ⟨st11, fr11⟩ := fin I11
          exact ⟨m', hm, i + 1, σ8, ys ++ [vy], _, I11.unpinned, st11, fr11, w10⟩
        · have IX : Inv X pins σ H1 s1 := I3.unblk f3 I1
          obtain ⟨m1, hn1, _⟩ := I1.loc
          obtain ⟨oC, es, ep, hoC, hdC, rC⟩ := id hn1
          have hC0 : H1 s3.heap.objs.size = none := I1.free
          have IP : Inv X (pins ++ [(s3.heap.objs.size, oC)]) σ H1 s1 := IX.pins_of fun p hp => by
            rcases List.mem_append.mp hp with z | z
            · exact IX.pin p (List.mem_append_right _ z)
            · obtain rfl := List.mem_singleton.mp z
              exact ⟨hoC, hC0, cL, I3.nofs (Nat.le_refl _), fun v z => by rw [hdC] at z; cases z⟩
          obtain ⟨ea, cls, σ', H', rfl, I', SS, eσ, q⟩ := CX1.xp (xk := fun σ' cls H' => σ' = σ ∧ xk σ cls H') fx IP hcx fun cls H' z => ⟨rfl, z⟩
          subst eσ
          show wpAny (model X.prog X.w) X.A (noteFrame (.ref ea) X.env) _ _ _
          refine XSt.note fx I' SS I2.ok.frames fun h1 B I2' F2 => ?_
          have mC : (s3.heap.objs.size, oC) ∈ X.pn ++ (pins ++ [(s3.heap.objs.size, oC)]) := List.mem_append_right _ (List.mem_append_right _ (by simp))
          have hB : B.get? s3.heap.objs.size = some oC := F2.cov.c4 _ mC
          have F3 : XF X pins ea cls (rawInt X.env.locals) H' { s10 with heap := h1 } B := ⟨⟨F2.cov.c1, F2.cov.c2, F2.cov.c3, fun p hp => F2.cov.c4 p (by
            rcases List.mem_append.mp hp with z | z
            · exact List.mem_append_left _ z
            · exact List.mem_append_right _ (List.mem_append_left _ z)), F2.cov.c5⟩, F2.new, F2.st, F2.fun_, F2.tr⟩
          exact hRX _ _ ea cls _ H' _ m1 B _ I2'.unpinned F3 ⟨oC, hB⟩ ⟨oC, es, ep, F2.st _ _ hB, hdC, rC⟩ (I2'.pin _ mC).2.1 I3.sz cL cC cP q
  exact codeAny_compStart_list loop (T.self _ 0 _ _ _ st4 loop)
section
variable {X : Cx} {elt target iter : Expr} {ifs : List Expr} {scope : Scope} {cl : List (Str × Addr)} {pos spos py : Pos} {NB : List Str} {ix : List (Option Nat)} {wi : TI} {g : TG} {tc : TT} {te : TEb}
def tCompB (wi : TI) (ix : List (Option Nat)) (g : TG) (tc : TT) (te : TEb) : TEx := fun xk σ H Q => wi σ H fun J H1 => ∀ D, H1 D = none → ∃ W : Nat → Nat → St → List V → Hp → Prop,
  (∃ m, W 0 m (blkSt ix σ) [] (upd H1 D (.lst []))) ∧ ∀ i' m σ' ys H, W i' m σ' ys H → H D = some (.lst ys) ∧
    ((J.stop i' H ∧ Q (.ref D) H) ∨ (J.go i' H ∧ ∃ N : St → List V → Hp → Prop, (∀ σ2 ys2 H2, N σ2 ys2 H2 → ∃ m', m' < m ∧ W (i' + 1) m' σ2 ys2 H2) ∧ ∀ x H', J.yld i' H x H' → g x σ' H' fun σ2 H2 => tc σ2 H2 fun b H3 =>
      if b = true then te (xk σ) σ2 H3 fun y H4 => H4 D = some (.lst ys) ∧ ys.length < sizeLine ∧ N σ2 (ys ++ [y]) (upd H4 D (.lst (ys ++ [y])))
      else N σ2 ys H3))
def tSetCompX (i : Nat) (t : TEx) : TX := fun Dd xk σ H => t xk σ H fun x H1 => Dd.nx (σ.set i (some x)) H1
theorem psx_setComp {i : Nat} {y : Str} (fx : FnCx X) (hc : X.calm = true) (hN : X.N.Nodup) (hi' : X.N[i]? = some y) (hy : Loc X.env.scope y) (S : CmpScope X scope cl NB ix) (hi : PI X.nox target iter wi)
    (hg : ∀ C s H fp pins, PG (X.blk scope cl C NB s H fp pins) target g) (ht : ∀ C s H fp pins, PCs (X.blk scope cl C NB s H fp pins) ifs tc) (he : ∀ C s H fp pins, PEB (X.blk scope cl C NB s H fp pins) elt te)
    (hsw : swapsWith (.ListComp elt [⟨target, iter, ifs, 0⟩] scope pos) (some (.Name y py)) spos.line X.env = pure true := by rfl)
    (hs : ∀ x, foldedSetIterable iter X.env x = pure x := by intro _; rfl) (hf : X.fn y = true ∨ X.env.scope.names.lookup y = some .local := by first | exact .inl rfl | exact .inr rfl | assumption) :
    PSX X (.Assign [.Name y py] (.ListComp elt [⟨target, iter, ifs, 0⟩] scope pos) spos) (tSetCompX i (tCompB wi ix g tc te)) := by
  intro pins s σ H D xk I h
  rw [exec_Assign_Name_used _ _ _ _ hsw]
  refine wpAny_bind (wpAny_standAt (wpAny_bind ?_))
  show wpAny _ X.A (do let _ ← comprehension (.ListComp elt [⟨target, iter, ifs, 0⟩] scope pos) scope X.env _ (newList []) false (eval iter X.env) (some (assign (.Name y py) X.env))) _ _ s
  refine wpAny_bind (wpAny_mono (wpAny_comprehension_free (use := some (assign (.Name y py) X.env)) (Q := fun _ s' => SP X pins D .next s') (E := XP X pins xk) rfl hs S.clos S.kind S.names
    (wpAny_mono (hi pins s σ H _ (I.wish _) h) (fun xv s1 h1 => wpAny_mono h1 (fun itv s2 h2 => ?_) fun _ _ z => z.elim) fun _ _ z => z.elim)) (fun _ s' hq => wpAny_pure (wpAny_pure hq)) fun _ _ e => e)
  obtain ⟨it, fp, tn, J, H2, e, I2, T, st2, f2, hr⟩ := PIE.unwish h2
  subst e
  refine comp_blkX (xk := xk) (Q := fun x H1 => D.nx (σ.set i (some x)) H1) (RR := fun acc C => compPost (model X.prog X.w) X.A (XP X pins xk) (some (assign (.Name y py) X.env)) (fun _ s' => SP X pins D .next s') acc C) fx hc S hg ht he I2 T st2 f2 ?_ ?_ ?_
  · intro D' hD'
    obtain ⟨W, h0, ht⟩ := hr D' hD'
    exact ⟨W, h0, ht⟩
  · intro Dd C H' s' m I' hn hC h0 hL hcl hp q
    show wpAny _ X.A (assign (.Name y py) X.env (.ref Dd)) _ _ _
    refine wpAny_mono (M := model X.prog X.w) (wpAny_assign_Name (E := FX) (store_ok2 (v := .ref Dd) I' hN hi' hy rfl (fun s2 I2 hsb => ?_) hf)) (fun _ _ z => z) fun _ _ z => z.elim
    obtain ⟨a, sb2, ha⟩ := hsb
    have hCa : C ≠ a := by
      rcases ha with z | z
      · rw [z]; exact hL
      · exact Ne.symm (hcl _ _ z)
    refine ⟨m, hn.sameBut sb2 hCa, fun h' sb => ?_⟩
    exact ⟨_, H', I2.turned (t' := s2.toks) (fun b o hb e => (sb.2 b hb).trans e) hC hL (.inr h0) hcl hp, q⟩
  · intro Dd C ea cls σ' H' s' m B fl I' F' hB hn hC h0 hL hcl hp q
    refine ⟨m, hn, fun h' sb cenv hcv => ?_⟩
    have I2' : Inv X pins σ' H' { s' with heap := h' } := I'.turned (t' := s'.toks) (fun b o hb e => (sb.2 b hb).trans e) hC hL (.inr h0) hcl hp
    have F2 := F'.letgo hB hC h0 hcl hp sb
    obtain ⟨oe, vs, T', oT, ts, he', h1, h2, hd, h3, hT0, nT, hT, dT, h4⟩ := id F2.tr
    unfold PySem.passOn
    refine wpAny_bind (wpAny_field he' hd h3 ?_)
    rw [if_neg (show ¬ ((Value.ref T' == Value.none) = true) by simp)]
    refine wpAny_bind (F2.flight fx I2' fun h3 I3 F3 => wpAny_throw ?_)
    exact ⟨ea, cls, σ', H', rfl, I3, .inr ⟨_, _, F3, .inl rfl⟩, q⟩
end
/-- name = [f(..) for .. in xs], f may raise -/
theorem setcompX_var {K : PySem.W.Frag} {i j : Nat} {ix : List (Option Nat)} {g : TG} {tc : TT} {te : TEb} {D : Ends} {xk : XKs} {σ : St} {H : Hp} {a : Addr} {xs : List V} (hv : σ[j]? = some (some (.ref a))) (hq : SqL K H a xs)
    (h : ∀ D0, H D0 = none → ∃ Pv : Nat → St → List V → Hp → Prop, Pv 0 (blkSt ix σ) [] (upd H D0 (.lst [])) ∧ (∀ i σ ys H, i ≤ xs.length → Pv i σ ys H → SqL K H a xs ∧ H D0 = some (.lst ys)) ∧
      (∀ i x σ2' ys H, xs[i]? = some x → Pv i σ2' ys H → g x σ2' H fun σ2 H2 => tc σ2 H2 fun b H3 =>
        if b = true then te (xk σ) σ2 H3 fun y H4 => H4 D0 = some (.lst ys) ∧ ys.length < sizeLine ∧ Pv (i + 1) σ2 (ys ++ [y]) (upd H4 D0 (.lst (ys ++ [y]))) else Pv (i + 1) σ2 ys H3) ∧
      ∀ σ' ys H', Pv xs.length σ' ys H' → D.nx (σ.set i (some (.ref D0))) H') : tSetCompX i (tCompB (iList K (tVar j)) ix g tc te) D xk σ H :=
  ⟨.ref a, hv, a, rfl, ⟨xs, hq⟩, fun D0 hD => let ⟨Pv, h0, h1, h2, h3⟩ := h D0 hD; comp_list (te := te (xk σ)) (Q := fun x H' => D.nx (σ.set i (some x)) H') Pv h0 h1 h2 h3⟩
end L2

end
section
set_option Elab.async false
set_option linter.all false
set_option maxRecDepth 100000
set_option maxHeartbeats 4000000
namespace K12
open PySem L2
/-! ### 1. The text by places -/
def top (i : Nat) : Stmt := PySem.Challenge.pw_trailbook_k12_trails_on_lines.main.body.getD i (.Pass ⟨0, 0, 0, 0⟩)
/-! ### 2. Trails as plain lists -/
abbrev sDo : Stmt := (top 8)
abbrev sUn : Stmt := (top 9)
abbrev sBeh : Stmt := (top 10)
abbrev sNx : Stmt := (top 11)
abbrev sCan : Stmt := (top 12)
abbrev sChk : Stmt := (top 13)
abbrev sSo : Stmt := (top 23)
abbrev sWhole : Stmt := (top 24)
abbrev sAt : Stmt := (top 25)
abbrev sLNx : Stmt := (top 26)
abbrev sTOf : Stmt := (top 27)
abbrev sShown : Stmt := (top 17)
abbrev sIsN : Stmt := (top 18)
abbrev sNum : Stmt := (top 19)
abbrev sEnt : Stmt := (top 20)
abbrev sRead : Stmt := (top 21)
abbrev sTold : Stmt := (top 28)
abbrev sUB : Stmt := (top 29)
abbrev sLaw : Stmt := (top 30)
abbrev En := Str × Int
inductive Nx where
  | dO (i : Int) | un (i : Int) | dn | ud
  deriving DecidableEq
def Nx.vs : Nx → List V
  | .dO i => [.str "do", .int i]
  | .un i => [.str "undo", .int i]
  | .dn => [.str "end", .str "done"]
  | .ud => [.str "end", .str "undone"]
def enV (e : En) : List V := [.str e.1, .int e.2]
def doD (m s : Int) : Nx := if s < m then .dO s else .dn
def unD (s : Int) : Nx := if 0 ≤ s then .un s else .ud
def nb (m : Int) (e : En) : Nx := if e.1 = "did" then doD m (e.2 + 1) else if e.1 = "unsure" then unD e.2 else unD (e.2 - 1)
def nxOf (m : Int) (t : List En) : Nx := match t.getLast? with
  | none => doD m 0
  | some e => nb m e
def stands (e : En) : Nx → Bool
  | .dO i => decide ((e.1 = "did" ∨ e.1 = "no" ∨ e.1 = "unsure") ∧ e.2 = i)
  | .un i => decide (e.1 = "undid" ∧ e.2 = i)
  | _ => false
def okAt (m : Int) (t : List En) (k : Nat) : Bool := match t[k]? with
  | some e => stands e (nxOf m (t.take k))
  | none => true
def okT (m : Int) (t : List En) : Bool := (List.range t.length).all (okAt m t)
def isIn (e : En) (t : List En) : Bool := t.any fun x => decide (x = e)
def standM (t : List En) : List Int := (t.filter fun (e : En) => decide (e.1 = ("did" : Str)) && !isIn ((("undid" : Str), e.2) : En) t).map (·.2)
theorem take_next {α : Type} {l : List α} {i : Nat} {x : α} (h : l[i]? = some x) : l.take (i + 1) = l.take i ++ [x] := by
  rw [List.take_add_one, h]; rfl
theorem nxOf_snoc (m : Int) (t : List En) (e : En) : nxOf m (t ++ [e]) = nb m e := by
  unfold nxOf
  rw [List.getLast?_append]
  rfl
/-- the entries as they lie -/
structure Ents (H : Hp) (as : List Addr) (t : List En) : Prop where
  len : as.length = t.length
  at_ : ∀ (i : Nat) a e, as[i]? = some a → t[i]? = some e → H a = some (.tup (enV e))
theorem Ents.keep {H H' : Hp} {as : List Addr} {t : List En} {ex : List Addr} (h : Ents H as t) (k : Kp ex H H') (hn : ∀ a ∈ ex, ∀ e, H a ≠ some (.tup e)) : Ents H' as t :=
  ⟨h.len, fun i a e e1 e2 => k.get (h.at_ i a e e1 e2) fun z => hn a z _ (h.at_ i a e e1 e2)⟩
theorem Ents.same {H H' : Hp} {as : List Addr} {t : List En} (h : Ents H as t) (k : Kp [] H H') : Ents H' as t := h.keep k (by simp)
theorem Ents.get {H : Hp} {as : List Addr} {t : List En} (h : Ents H as t) {i : Nat} {a : Addr} (e : as[i]? = some a) : ∃ x, t[i]? = some x ∧ H a = some (.tup (enV x)) := by
  have hi : i < t.length := by rw [← h.len]; exact (List.getElem?_eq_some_iff.mp e).1
  exact ⟨t[i], List.getElem?_eq_getElem hi, h.at_ i a _ e (List.getElem?_eq_getElem hi)⟩
theorem snoc_of {α : Type} {l : List α} (h : l ≠ []) : ∃ l' x, l = l' ++ [x] := ⟨l.dropLast, l.getLast h, (List.dropLast_concat_getLast h).symm⟩
theorem Ents.snoc {H : Hp} {as : List Addr} {t : List En} (h : Ents H as t) (hn : as ≠ []) : ∃ as' a t' e, as = as' ++ [a] ∧ t = t' ++ [e] ∧ H a = some (.tup (enV e)) ∧ Ents H as' t' := by
  have ht : t ≠ [] := fun z => by have := h.len; rw [z] at this; exact hn (List.length_eq_zero_iff.mp this)
  obtain ⟨as', a, rfl⟩ := snoc_of hn
  obtain ⟨t', e, rfl⟩ := snoc_of ht
  have hl : as'.length = t'.length := by have := h.len; simp at this; exact this
  refine ⟨as', a, t', e, rfl, rfl, h.at_ as'.length a e (by simp) (by rw [hl]; simp), hl, fun i b x e1 e2 => h.at_ i b x ?_ ?_⟩
  · rw [List.getElem?_append_left (List.getElem?_eq_some_iff.mp e1).1]; exact e1
  · rw [List.getElem?_append_left (List.getElem?_eq_some_iff.mp e2).1]; exact e2
theorem Ents.app {H : Hp} {as bs : List Addr} {t u : List En} (h : Ents H as t) (h' : Ents H bs u) : Ents H (as ++ bs) (t ++ u) := by
  refine ⟨by simp [h.len, h'.len], fun i a e e1 e2 => ?_⟩
  by_cases hi : i < as.length
  · rw [List.getElem?_append_left hi] at e1
    rw [List.getElem?_append_left (by rw [← h.len]; exact hi)] at e2
    exact h.at_ i a e e1 e2
  · rw [List.getElem?_append_right (by omega)] at e1
    rw [List.getElem?_append_right (by rw [← h.len]; omega)] at e2
    exact h'.at_ _ a e e1 (by rw [h.len]; exact e2)
theorem Ents.one {H : Hp} {a : Addr} {e : En} (h : H a = some (.tup (enV e))) : Ents H [a] [e] := ⟨rfl, fun i b x e1 e2 => by
  cases i with
  | zero => simp at e1 e2; subst e1 e2; exact h
  | succ n => simp at e1⟩
theorem Ents.nil (H : Hp) : Ents H [] [] := ⟨rfl, fun i a e e1 _ => by simp at e1⟩
theorem Ents.take {H : Hp} {as : List Addr} {t : List En} (h : Ents H as t) (n : Nat) : Ents H (as.take n) (t.take n) := ⟨by simp [h.len], fun i a e e1 e2 => by
  rw [List.getElem?_take] at e1 e2
  split at e1
  · rename_i hi
    rw [if_pos hi] at e2
    exact h.at_ i a e e1 e2
  · cases e1⟩
theorem Ents.drop {H : Hp} {as : List Addr} {t : List En} (h : Ents H as t) (n : Nat) : Ents H (as.drop n) (t.drop n) := ⟨by simp [h.len], fun i a e e1 e2 => by
  rw [List.getElem?_drop] at e1 e2
  exact h.at_ _ a e e1 e2⟩
theorem Ents.set {H : Hp} {as : List Addr} {t : List En} {a : Addr} {e : En} (h : Ents H as t) (n : Nat) (ha : H a = some (.tup (enV e))) : Ents H (as.set n a) (t.set n e) := ⟨by simp [h.len], fun i b x e1 e2 => by
  rw [List.getElem?_set] at e1 e2
  rw [h.len] at e1
  split at e1
  · rename_i hi
    rw [if_pos hi] at e2
    split at e1
    · rename_i hl
      rw [if_pos hl] at e2
      cases e1; cases e2
      exact ha
    · cases e1
  · rename_i hi
    rw [if_neg hi] at e2
    exact h.at_ i b x e1 e2⟩
structure TrAt (H : Hp) (l : Addr) (as : List Addr) (t : List En) : Prop where
  ls : H l = some (.lst (as.map V.ref))
  en : Ents H as t
theorem TrAt.same {H H' : Hp} {l : Addr} {as : List Addr} {t : List En} (h : TrAt H l as t) (k : Kp [] H H') : TrAt H' l as t := ⟨k.get h.ls (by simp), h.en.same k⟩
/-! ### 3. Promises -/
def spDo : Sp := fun vs H Q _ => ∃ m s : Int, vs = [.int m, .int s] ∧ ∀ p H', H p = none → H' p = some (.tup (doD m s).vs) → Kp [] H H' → Q (.ref p) H'
def spUn : Sp := fun vs H Q _ => ∃ s : Int, vs = [.int s] ∧ ∀ p H', H p = none → H' p = some (.tup (unD s).vs) → Kp [] H H' → Q (.ref p) H'
def spBeh : Sp := fun vs H Q _ => ∃ (m : Int) (e : En), vs = [.int m, .str e.1, .int e.2] ∧ ∀ p H', H p = none → H' p = some (.tup (nb m e).vs) → Kp [] H H' → Q (.ref p) H'
def spNx : Sp := fun vs H Q _ => ∃ (m : Int) (l : Addr) (as : List Addr) (t : List En), vs = [.int m, .ref l] ∧ TrAt H l as t ∧ ∀ p H', H p = none → H' p = some (.tup (nxOf m t).vs) → Kp [] H H' → Q (.ref p) H'
def spCan : Sp := fun vs H Q _ => ∃ (a c : Addr) (e : En) (n : Nx), vs = [.ref a, .ref c] ∧ H a = some (.tup (enV e)) ∧ H c = some (.tup n.vs) ∧ Q (.bl (stands e n)) H
def spChk (C : Addr) : Sp := fun vs H Q E => ∃ (m : Int) (l : Addr) (as : List Addr) (t : List En), vs = [.int m, .ref l] ∧ TrAt H l as t ∧ t.length ≤ 500 ∧
  (okT m t = true → ∀ H', Kp [] H H' → Q .non H') ∧ (okT m t = false → ∀ H', Kp [] H H' → E (.ref C) none H')
structure Words (K : PySem.W.Frag) (FW : Addr) : Prop where
  d : wordsIn K FW "do" ["did", "no", "unsure"] = true
  u : wordsIn K FW "undo" ["undid"] = true
  e : wordsIn K FW "end" [] = true
structure Blt (mg : Str → Option Value) : Prop where
  len : mg "len" = none
  isinstance : mg "isinstance" = none
  dict : mg "dict" = none
  list_ : mg "list" = none
  tuple : mg "tuple" = none
  int_ : mg "int" = none
  bool : mg "bool" = none
  str : mg "str" = none
  range : mg "range" = none
  enumerate : mg "enumerate" = none
  ValueError : mg "ValueError" = none
section
variable {P : Program} {w : World} {K : PySem.W.Frag} {mg : Str → Option Value} {base : Heap}
theorem sc_Do : FnScope ["many", "step"] ["many", "step"] (defScope sDo) := ⟨rfl, rfl, rfl, by decide +kernel, rfl, by decide +kernel, by decide +kernel⟩
theorem ok_do {f : Addr} {fd : FuncData} (Fn : Fun K "do_or_done" "do_or_done" sDo f fd) : FnOk P w K mg base CX0 1 f fd ["many", "step"] spDo := by
  refine Fn.ok sc_Do (fun vs H Q E h => ?_) (fun cdv A outer s H vs Q E hr h => ?_)
  · obtain ⟨m, i, rfl, _⟩ := h
    rfl
  · obtain ⟨m, i, rfl, k⟩ := h
    refine ⟨_, (pss_cons (ps_if (pt_cmpR op_lt (pv 1) (pv 0) (nomark _))
      (pss_one (ps_ret (pe_tup (pa_cons pe_str (pa_cons (pv 1) pa_nil)))))
      pss_nil)
      (pss_one (ps_ret (pe_tup (pa_cons pe_str (pa_cons pe_str pa_nil)))))), ?_⟩
    unfold doD at k
    refine ⟨_, rfl, _, rfl, _, _, rfl, rfl, _, rfl, ?_⟩
    refine ite2 (fun h => ?_) (fun h => ?_)
    · rw [if_pos (of_decide_eq_true h)] at k
      exact ⟨_, rfl, (by show 2 ≤ sizeLine; decide), fun p hp => k p _ hp upd_same (Kp.new hp)⟩
    · rw [if_neg (fun z => h (decide_eq_true z))] at k
      exact ⟨(by show 2 ≤ sizeLine; decide), fun p hp => k p _ hp upd_same (Kp.new hp)⟩
theorem sc_Un : FnScope ["step"] ["step"] (defScope sUn) := ⟨rfl, rfl, rfl, by decide +kernel, rfl, by decide +kernel, by decide +kernel⟩
theorem ok_un {f : Addr} {fd : FuncData} (Fn : Fun K "undo_or_undone" "undo_or_undone" sUn f fd) : FnOk P w K mg base CX0 1 f fd ["step"] spUn := by
  refine Fn.ok sc_Un (fun vs H Q E h => ?_) (fun cdv A outer s H vs Q E hr h => ?_)
  · obtain ⟨i, rfl, _⟩ := h
    rfl
  · obtain ⟨i, rfl, k⟩ := h
    refine ⟨_, (pss_cons (ps_if (pt_cmpR op_ge (pv 0) pe_int (nomark _))
      (pss_one (ps_ret (pe_tup (pa_cons pe_str (pa_cons (pv 0) pa_nil)))))
      pss_nil)
      (pss_one (ps_ret (pe_tup (pa_cons pe_str (pa_cons pe_str pa_nil)))))), ?_⟩
    unfold unD at k
    refine ⟨_, rfl, _, _, rfl, rfl, _, rfl, ?_⟩
    refine ite2 (fun h => ?_) (fun h => ?_)
    · rw [if_pos (of_decide_eq_true h)] at k
      exact ⟨_, rfl, (by show 2 ≤ sizeLine; decide), fun p hp => k p _ hp upd_same (Kp.new hp)⟩
    · rw [if_neg (fun z => h (decide_eq_true z))] at k
      exact ⟨(by show 2 ≤ sizeLine; decide), fun p hp => k p _ hp upd_same (Kp.new hp)⟩
theorem sc_Beh : FnScope ["many", "word", "step"] ["many", "word", "step"] (defScope sBeh) := ⟨rfl, rfl, rfl, by decide +kernel, rfl, by decide +kernel, by decide +kernel⟩
theorem ok_beh {f : Addr} {fd : FuncData} (Fn : Fun K "next_behind" "next_behind" sBeh f fd) (Ddo_or_done : Df P w K mg base CX0 1 "do_or_done" ["many", "step"] spDo) (Dundo_or_undone : Df P w K mg base CX0 1 "undo_or_undone" ["step"] spUn) :
    FnOk P w K mg base CX0 2 f fd ["many", "word", "step"] spBeh := by
  refine Fn.ok sc_Beh (fun vs H Q E h => ?_) (fun cdv A outer s H vs Q E hr h => ?_)
  · obtain ⟨m, e, rfl, _⟩ := h
    rfl
  · obtain ⟨m, ⟨x, i⟩, rfl, k⟩ := h
    refine ⟨_, (pss_cons (ps_if (pt_cmpR op_eq (pv 1) pe_str (nomark _))
      (pss_one (ps_ret (pe_fn Ddo_or_done (hr.mono (by decide)) pass0 (pa_cons (pv 0) (pa_cons (pe_op op_add (pv 2) pe_int) pa_nil)))))
      pss_nil)
      (pss_cons (ps_if (pt_cmpR op_eq (pv 1) pe_str (nomark _))
      (pss_one (ps_ret (pe_fn Dundo_or_undone (hr.mono (by decide)) pass0 (pa_cons (pv 2) pa_nil))))
      pss_nil)
      (pss_one (ps_ret (pe_fn Dundo_or_undone (hr.mono (by decide)) pass0 (pa_cons (pe_op op_sub (pv 2) pe_int) pa_nil)))))), ?_⟩
    unfold nb at k
    dsimp only at k
    refine ⟨_, rfl, rfl, _, rfl, ?_⟩
    refine ite2 (fun h => ?_) (fun h => ?_)
    · have h := V.str.inj (of_decide_eq_true h)
      rw [if_pos h] at k
      exact ⟨_, rfl, _, rfl, _, _, rfl, rfl, m, i + 1, rfl, k⟩
    · rw [if_neg (fun z => h (decide_eq_true (congrArg V.str z)))] at k
      refine ⟨_, rfl, rfl, _, rfl, ?_⟩
      refine ite2 (fun h => ?_) (fun h => ?_)
      · have h := V.str.inj (of_decide_eq_true h)
        rw [if_pos h] at k
        exact ⟨_, rfl, i, rfl, k⟩
      · rw [if_neg (fun z => h (decide_eq_true (congrArg V.str z)))] at k
        exact ⟨_, rfl, _, _, rfl, rfl, i - 1, rfl, k⟩
theorem sc_Nx : FnScope ["many", "trail", "last"] ["many", "trail"] (defScope sNx) := ⟨rfl, rfl, rfl, by decide +kernel, rfl, by decide +kernel, by decide +kernel⟩
theorem ok_nx {f : Addr} {fd : FuncData} (Fn : Fun K "next_of" "next_of" sNx f fd) (Ddo_or_done : Df P w K mg base CX0 1 "do_or_done" ["many", "step"] spDo) (Dnext_behind : Df P w K mg base CX0 2 "next_behind" ["many", "word", "step"] spBeh) :
    FnOk P w K mg base CX0 3 f fd ["many", "trail"] spNx := by
  refine Fn.ok sc_Nx (fun vs H Q E h => ?_) (fun cdv A outer s H vs Q E hr h => ?_)
  · obtain ⟨m, l, as, t, rfl, _⟩ := h
    rfl
  · obtain ⟨m, l, as, t, rfl, T, k⟩ := h
    have nd := sc_Nx.nd
    refine ⟨_, (pss_cons (ps_if (pt_not (pt_truth (pv 1) (fun _ => rfl)))
      (pss_one (ps_ret (pe_fn Ddo_or_done (hr.mono (by decide)) pass0 (pa_cons (pv 0) (pa_cons pe_int pa_nil)))))
      pss_nil)
      (pss_cons (ps_set (i := 2) nd rfl (Or.inl rfl) (pe_ix ix_list (pv 1) (pe_un un_neg pe_int) (fun _ _ => rfl)))
      (pss_one (ps_ret (pe_fn Dnext_behind (hr.mono (by decide)) pass0 (pa_cons (pv 0) (pa_cons (pe_ix ix_tup (pv 2) pe_int (fun _ _ => rfl)) (pa_cons (pe_ix ix_tup (pv 2) pe_int (fun _ _ => rfl)) pa_nil)))))))), ?_⟩
    refine ⟨_, rfl, _, .inl ⟨_, SqL.of T.ls, rfl⟩, ?_⟩
    by_cases hn : as = []
    · subst hn
      have ht : t = [] := List.length_eq_zero_iff.mp T.en.len.symm
      subst ht
      refine iteT ?_
      exact ⟨_, rfl, m, 0, rfl, k⟩
    · obtain ⟨as', a, t', ⟨x, i⟩, rfl, rfl, ha, _⟩ := T.en.snoc hn
      rw [nxOf_snoc] at k
      have e1 : (!(List.map V.ref (as' ++ [a])).isEmpty) = true := by simp
      rw [e1]
      refine iteF ?_
      refine ⟨_, rfl, _, rfl, l, _, -1, .ref a, rfl, rfl, SqL.of T.ls, ?_, ?_⟩
      · rw [List.map_append]; exact atI_last _ _
      · refine ⟨_, rfl, _, rfl, a, _, _, _, rfl, rfl, SqT.of ha, atI_nat (j := 0) rfl, ?_⟩
        exact ⟨_, rfl, a, _, _, _, rfl, rfl, SqT.of ha, atI_nat (j := 1) rfl, m, (x, i), rfl, k⟩
theorem in3 (x : Str) : (if false = true then !inV (V.str x) (List.map V.str ["did", "no", "unsure"]) else inV (V.str x) (List.map V.str ["did", "no", "unsure"])) = true ↔ x = "did" ∨ x = "no" ∨ x = "unsure" := by
  rw [if_neg Bool.false_ne_true]
  simp only [inV, List.map_cons, List.map_nil, List.any_cons, List.any_nil, eqV, Bool.or_false, Bool.or_eq_true, beq_iff_eq]
  constructor
  · rintro (z | z | z)
    · exact .inl z.symm
    · exact .inr (.inl z.symm)
    · exact .inr (.inr z.symm)
  · rintro (z | z | z)
    · exact .inl z.symm
    · exact .inr (.inl z.symm)
    · exact .inr (.inr z.symm)
theorem in1 (x : Str) : (if false = true then !inV (V.str x) (List.map V.str ["undid"]) else inV (V.str x) (List.map V.str ["undid"])) = true ↔ x = "undid" := by
  rw [if_neg Bool.false_ne_true]
  simp only [inV, List.map_cons, List.map_nil, List.any_cons, List.any_nil, eqV, Bool.or_false, beq_iff_eq]
  exact ⟨fun z => z.symm, fun z => z.symm⟩
theorem sc_Can : FnScope ["entry", "coming"] ["entry", "coming"] (defScope sCan) := ⟨rfl, rfl, rfl, by decide +kernel, rfl, by decide +kernel, by decide +kernel⟩
theorem ok_can {f FW : Addr} {fd : FuncData} (Fn : Fun K "can_stand" "can_stand" sCan f fd) (g_FW : mg "FITTING_WORDS" = some (.ref FW)) (W : Words K FW) : FnOk P w K mg base CX0 1 f fd ["entry", "coming"] spCan := by
  refine Fn.ok sc_Can (fun vs H Q E h => ?_) (fun cdv A outer s H vs Q E hr h => ?_)
  · obtain ⟨a, c, e, n, rfl, _⟩ := h
    rfl
  · obtain ⟨a, c, ⟨x, i⟩, n, rfl, ha, hc, k⟩ := h
    refine ⟨_, (pss_one (ps_ret (pe_and (pe_cmpR op_in_seq (pe_ix ix_tup (pv 0) pe_int (fun _ _ => rfl)) (pe_ix ix_words (pe_glob rfl g_FW (v := .ref FW) rfl) (pe_ix ix_tup (pv 1) pe_int (fun _ _ => rfl)) (fun _ _ => rfl)) (by with_unfolding_all rfl)) (pe_one (pe_cmpR op_eq (pe_ix ix_tup (pv 0) pe_int (fun _ _ => rfl)) (pe_ix ix_tup (pv 1) pe_int (fun _ _ => rfl)) (nomark _)))))), ?_⟩
    refine ⟨_, rfl, a, _, _, _, rfl, rfl, SqT.of ha, atI_nat (j := 0) rfl, ?_⟩
    cases n with
    | dO j =>
      refine ⟨_, rfl, c, _, _, _, rfl, rfl, SqT.of hc, atI_nat (j := 0) rfl, FW, _, _, rfl, rfl, W.d, fun p hp => ?_⟩
      refine ⟨p, _, rfl, .inr hp, rfl, rfl, _, rfl, ?_⟩
      refine ite2 (fun h => ?_) (fun h => ?_)
      · refine ⟨_, rfl, a, _, _, _, rfl, rfl, SqT.of ha, atI_nat (j := 1) rfl, _, rfl, c, _, _, _, rfl, rfl, SqT.of hc, atI_nat (j := 1) rfl, rfl, ?_⟩
        have h' := (in3 x).mp h
        have e : stands (x, i) (.dO j) = decide (V.int i = V.int j) := by unfold stands; rw [decide_eq_decide]; exact ⟨fun z => congrArg V.int z.2, fun z => ⟨h', V.int.inj z⟩⟩
        rw [e] at k
        exact k
      · have e : stands (x, i) (.dO j) = false := by unfold stands; rw [decide_eq_false_iff_not]; exact fun z => h ((in3 x).mpr z.1)
        rw [e] at k
        exact k
    | un j =>
      refine ⟨_, rfl, c, _, _, _, rfl, rfl, SqT.of hc, atI_nat (j := 0) rfl, FW, _, _, rfl, rfl, W.u, fun p hp => ?_⟩
      refine ⟨p, _, rfl, .inr hp, rfl, rfl, _, rfl, ?_⟩
      refine ite2 (fun h => ?_) (fun h => ?_)
      · refine ⟨_, rfl, a, _, _, _, rfl, rfl, SqT.of ha, atI_nat (j := 1) rfl, _, rfl, c, _, _, _, rfl, rfl, SqT.of hc, atI_nat (j := 1) rfl, rfl, ?_⟩
        have h' := (in1 x).mp h
        have e : stands (x, i) (.un j) = decide (V.int i = V.int j) := by unfold stands; rw [decide_eq_decide]; exact ⟨fun z => congrArg V.int z.2, fun z => ⟨h', V.int.inj z⟩⟩
        rw [e] at k
        exact k
      · have e : stands (x, i) (.un j) = false := by unfold stands; rw [decide_eq_false_iff_not]; exact fun z => h ((in1 x).mpr z.1)
        rw [e] at k
        exact k
    | dn =>
      refine ⟨_, rfl, c, _, _, _, rfl, rfl, SqT.of hc, atI_nat (j := 0) rfl, FW, _, _, rfl, rfl, W.e, fun p hp => ?_⟩
      exact ⟨p, _, rfl, .inr hp, rfl, rfl, _, rfl, iteF k⟩
    | ud =>
      refine ⟨_, rfl, c, _, _, _, rfl, rfl, SqT.of hc, atI_nat (j := 0) rfl, FW, _, _, rfl, rfl, W.e, fun p hp => ?_⟩
      exact ⟨p, _, rfl, .inr hp, rfl, rfl, _, rfl, iteF k⟩
end
end K12

end
section
set_option Elab.async false
set_option linter.all false
set_option maxRecDepth 100000
set_option maxHeartbeats 4000000
namespace K12
open PySem L2
/-- an own exception class, by name -/
structure XK1 (K : PySem.W.Frag) (mg : Str → Option Value) (x : Str) (C : Addr) : Prop where
  g : mg x = some (.ref C)
  z : XCls K C
section
variable {P : Program} {w : World} {K : PySem.W.Frag} {mg : Str → Option Value} {base : Heap}
theorem okT_false {m : Int} {t : List En} {k : Nat} (hk : k < t.length) (h : okAt m t k = false) : okT m t = false := by
  unfold okT
  rw [List.all_eq_false]
  exact ⟨k, List.mem_range.mpr hk, by rw [h]; exact Bool.false_ne_true⟩
theorem okT_true {m : Int} {t : List En} (h : ∀ k, k < t.length → okAt m t k = true) : okT m t = true := by
  unfold okT
  rw [List.all_eq_true]
  exact fun k hk => h k (List.mem_range.mp hk)
theorem small_log {i : Nat} (h : i ≤ 500) : ((i : Int)).natAbs.log2 < 1920 := by
  rw [Int.natAbs_natCast]
  by_cases h0 : i = 0
  · subst h0; decide
  · rw [Nat.log2_lt h0]
    exact Nat.lt_of_le_of_lt h (Nat.lt_of_lt_of_le (show 500 < 2 ^ 9 by decide) (Nat.pow_le_pow_right (by decide) (by decide)))
theorem sc_Chk : FnScope ["many", "trail", "coming", "place", "entry"] ["many", "trail"] (defScope sChk) := ⟨rfl, rfl, rfl, by decide +kernel, rfl, by decide +kernel, by decide +kernel⟩
theorem ok_chk {f C_NoTrail : Addr} {fd : FuncData} (Fn : Fun K "check_trail" "check_trail" sChk f fd) (B : Blt mg) (Dnext_of : Df P w K mg base CX0 3 "next_of" ["many", "trail"] spNx) (Dnext_behind : Df P w K mg base CX0 2 "next_behind" ["many", "word", "step"] spBeh)
    (Dcan_stand : Df P w K mg base CX0 1 "can_stand" ["entry", "coming"] spCan) (g_NoTrail : mg "NoTrail" = some (.ref C_NoTrail)) (q_NoTrail : PySem.W.excIn K C_NoTrail [.type "ValueError", .type "Exception", .type "BaseException", .type "object"] "ValueError.__new__" = true) :
    FnOk P w K mg base (CX1 P w) 4 f fd ["many", "trail"] (spChk C_NoTrail) := by
  refine Fn.okX sc_Chk (fun vs H Q E h => ?_) (fun cdv A outer s H vs Q E hr h => ?_)
  · obtain ⟨m, l, as, t, rfl, _⟩ := h
    rfl
  · obtain ⟨m, l, as, t, rfl, T, hz, k1, k2⟩ := h
    have nd := sc_Chk.nd
    have fx := fnCx_of (CX := CX1 P w) (P := P) (w := w) (K := K) (mg := mg) (base := base) (N := ["many", "trail", "coming", "place", "entry"]) (qual := "check_trail") (scope := defScope sChk) (f := f) (cd := cdv) (A := A) (outer := outer) (s := s) (H := H) (E := E)
    refine ⟨_, (psxs_cons (psx_of (ps_set (i := 2) nd rfl (Or.inl rfl) (pe_fn Dnext_of (hr.mono (by decide)) pass0 (pa_cons (pv 0) (pa_cons (pe_lst pa_nil) pa_nil)))))
      (psxs_one (psx_for fx rfl (pi_enum rfl B.enumerate (pa_cons (pv 1) pa_nil)) (pg_tup rfl (pgs_cons (pg_name (i := 3) nd rfl (Or.inl rfl)) (pgs_cons (pg_name (i := 4) nd rfl (Or.inl rfl)) pgs_nil)))
      (psxs_cons (psx_if (pt_not (pt_val (pe_fn Dcan_stand (hr.mono (by decide)) pass0 (pa_cons (pv 4) (pa_cons (pv 2) pa_nil)))))
      (psxs_one (psx_raise fx rfl g_NoTrail q_NoTrail PySem.F.excBase_ValueError (pa_cons (pe_fmt (pv 3) (by decide +kernel)) pa_nil)))
      (psxs_of pss_nil))
      (psxs_one (psx_of (ps_set (i := 2) nd rfl (Or.inl rfl) (pe_fn Dnext_behind (hr.mono (by decide)) pass0 (pa_cons (pv 0) (pa_cons (pe_ix ix_tup (pv 4) pe_int (fun _ _ => rfl)) (pa_cons (pe_ix ix_tup (pv 4) pe_int (fun _ _ => rfl)) pa_nil))))))))))), ?_⟩
    refine ⟨_, rfl, (by show 0 ≤ sizeLine; decide), fun l0 hl0 => ⟨m, l0, [], [], rfl, ⟨upd_same, .nil _⟩, fun c H1 hc hc1 kp1 => ?_⟩⟩
    have kp := (Kp.new (ex := []) (o := .lst []) hl0).trans kp1
    refine ⟨_, rfl, l, rfl, ⟨_, SqL.of (kp.get T.ls (by simp))⟩, ?_⟩
    refine for_enumX (K := K) (a := l) (xs := as.map V.ref) (fun i σ H2 => ∃ v3 v4 c, σ = [some (.int m), some (.ref l), some (.ref c), v3, v4] ∧ Kp [] H H2 ∧ H2 c = some (.tup (nxOf m (t.take i)).vs) ∧ ∀ j, j < i → okAt m t j = true)
      ⟨none, none, c, rfl, kp, hc1, fun j hj => absurd hj (Nat.not_lt_zero j)⟩ (fun i σ H2 _ ⟨_, _, _, _, e, _⟩ => SqL.of (e.get T.ls (by simp))) ?_ ?_
    · rintro i x σ H2 p hx ⟨v3, v4, c, rfl, kp2, hc2, hall⟩ hp
      rw [List.getElem?_map] at hx
      cases ea : as[i]? with
      | none => rw [ea] at hx; cases hx
      | some a =>
        rw [ea] at hx
        obtain rfl : V.ref a = x := Option.some.inj hx
        obtain ⟨⟨y, n⟩, et, ha⟩ := T.en.get ea
        have hi : i < t.length := (List.getElem?_eq_some_iff.mp et).1
        have kp3 : Kp [] H2 (upd H2 p (.tup [.int i, .ref a])) := Kp.new hp
        have ha3 := kp3.get (kp2.get ha (by simp)) (by simp)
        have hc3 := kp3.get hc2 (by simp)
        have eo : okAt m t i = stands (y, n) (nxOf m (t.take i)) := by unfold okAt; rw [et]
        refine ⟨p, _, rfl, SqT.of upd_same, rfl, _, _, rfl, _, _, rfl, rfl, ?_⟩
        refine ⟨_, rfl, _, rfl, a, c, (y, n), _, rfl, ha3, hc3, ?_⟩
        cases es : stands (y, n) (nxOf m (t.take i)) with
        | false =>
          refine ⟨_, rfl, iteT ?_⟩
          refine ⟨_, rfl, _, rfl, small_log (by omega), fun yy => ⟨(by show 1 ≤ sizeLine; decide), ?_⟩⟩
          exact k2 (okT_false hi (eo.trans es)) _ (kp2.trans kp3)
        | true =>
          refine ⟨_, rfl, iteF ?_⟩
          refine ⟨_, rfl, _, rfl, a, _, _, _, rfl, rfl, SqT.of ha3, atI_nat (j := 0) rfl, _, rfl, a, _, _, _, rfl, rfl, SqT.of ha3, atI_nat (j := 1) rfl, m, (y, n), rfl, fun q H4 hq hq4 kp4 => ?_⟩
          refine ⟨_, _, q, rfl, (kp2.trans kp3).trans kp4, ?_, fun j hj => ?_⟩
          · rw [take_next et, nxOf_snoc]; exact hq4
          · by_cases hji : j = i
            · rw [hji]; exact eo.trans es
            · exact hall j (by omega)
    · rintro σ H2 ⟨v3, v4, c, rfl, kp2, hc2, hall⟩
      refine k1 (okT_true fun k hk => hall k ?_) _ kp2
      rw [List.length_map, T.en.len]; exact hk
end
end K12

end
section
set_option Elab.async false
set_option linter.all false
set_option maxRecDepth 100000
set_option maxHeartbeats 4000000
namespace K12
open PySem L2
section
variable {P : Program} {w : World} {K : PySem.W.Frag} {mg : Str → Option Value} {base : Heap}
def spWhole : Sp := fun vs H Q _ => ∃ n : Int, vs = [.int n] ∧ Q (.bl true) H
theorem sc_Whole : FnScope ["_law_found"] ["_law_found"] (defScope sWhole) := ⟨rfl, rfl, rfl, by decide +kernel, rfl, by decide +kernel, by decide +kernel⟩
theorem ok_whole {f : Addr} {fd : FuncData} (Fn : Fun K "_law_whole" "_law_whole" sWhole f fd) (B : Blt mg) : FnOk P w K mg base CX0 1 f fd ["_law_found"] spWhole := by
  refine Fn.ok sc_Whole (fun vs H Q E h => ?_) (fun cdv A outer s H vs Q E hr h => ?_)
  · obtain ⟨n, rfl, _⟩ := h
    rfl
  · obtain ⟨n, rfl, k⟩ := h
    refine ⟨_, (pss_one (ps_ret (pe_and (pe_callB call_isi rfl B.isinstance PyProof.Rows.boot_isinstance (pa_cons (pv 0) (pa_cons (pe_bltn rfl B.int_ PyProof.Rows.boot_int (v := .ty "int") rfl) pa_nil))) (pe_one (pe_not (pe_callB call_isi rfl B.isinstance PyProof.Rows.boot_isinstance (pa_cons (pv 0) (pa_cons (pe_bltn rfl B.bool PyProof.Rows.boot_bool (v := .ty "bool") rfl) pa_nil)))))))), ?_⟩
    refine ⟨_, rfl, _, _, _, true, rfl, .int _, kit_of (by decide +kernel), _, rfl, iteT ?_⟩
    exact ⟨_, rfl, _, _, _, false, rfl, .int _, kit_of (by decide +kernel), _, rfl, k⟩
def spAt (K : PySem.W.Frag) : Sp := fun vs H Q _ => ∃ (a : Addr) (ns : List Int) (k : Nat), vs = [.ref a, .int k] ∧ SqL K H a (ns.map V.int) ∧ Q (.int (ns.getD k 0)) H
theorem sc_At : FnScope ["_law_script", "_law_k"] ["_law_script", "_law_k"] (defScope sAt) := ⟨rfl, rfl, rfl, by decide +kernel, rfl, by decide +kernel, by decide +kernel⟩
theorem ok_at {f : Addr} {fd : FuncData} (Fn : Fun K "_law_at" "_law_at" sAt f fd) (B : Blt mg) : FnOk P w K mg base CX0 1 f fd ["_law_script", "_law_k"] (spAt K) := by
  refine Fn.ok sc_At (fun vs H Q E h => ?_) (fun cdv A outer s H vs Q E hr h => ?_)
  · obtain ⟨a, ns, k, rfl, _⟩ := h
    rfl
  · obtain ⟨a, ns, k, rfl, hS, q⟩ := h
    refine ⟨_, (pss_cons (ps_if (pt_cmpR op_lt (pv 1) (pe_callB call_len_seq rfl B.len PySem.boot_len (pa_cons (pv 0) pa_nil)) (nomark _))
      (pss_one (ps_ret (pe_ix ix_list (pv 0) (pv 1) (fun _ _ => rfl))))
      pss_nil)
      (pss_one (ps_ret pe_int))), ?_⟩
    refine ⟨_, rfl, _, rfl, a, _, rfl, .inl hS, _, _, rfl, rfl, _, rfl, ?_⟩
    rw [List.length_map]
    refine ite2 (fun h => ?_) (fun h => ?_)
    · have h' : k < ns.length := by have := of_decide_eq_true h; omega
      refine ⟨_, rfl, _, rfl, a, _, _, _, rfl, rfl, hS, atI_nat (j := k) (v := .int (ns.getD k 0)) ?_, q⟩
      rw [List.getElem?_map, List.getElem?_eq_getElem h', List.getD_eq_getElem?_getD, List.getElem?_eq_getElem h']
      rfl
    · have h' : ns.length ≤ k := by
        have : ¬ ((k : Int) < (ns.length : Int)) := fun z => h (decide_eq_true z)
        omega
      have e : ns.getD k 0 = 0 := by rw [List.getD_eq_getElem?_getD, List.getElem?_eq_none_iff.mpr h']; rfl
      rw [e] at q
      exact q
def spSo1 : Sp := fun vs H Q _ => ∃ x : V, vs = [x, x] ∧ ((∃ y, x = .str y) ∨ ∃ i, x = .int i) ∧ Q (.bl true) H
theorem sc_So : FnScope ["_law_found", "_law_meant", "_law_k"] ["_law_found", "_law_meant"] (defScope sSo) := ⟨rfl, rfl, rfl, by decide +kernel, rfl, by decide +kernel, by decide +kernel⟩
theorem ok_so1 {f : Addr} {fd : FuncData} (Fn : Fun K "_law_so" "_law_so" sSo f fd) (B : Blt mg) : FnOk P w K mg base CX0 1 f fd ["_law_found", "_law_meant"] spSo1 := by
  refine Fn.ok sc_So (fun vs H Q E h => ?_) (fun cdv A outer s H vs Q E hr h => ?_)
  · obtain ⟨x, rfl, _⟩ := h
    rfl
  · obtain ⟨x, rfl, hx, k⟩ := h
    have nd := sc_So.nd
    refine ⟨_, (pss_cons (ps_if (pt_cmp (pc_isN (pv 1)))
      (pss_one (ps_ret (pe_cmp (pc_isN (pv 0)))))
      pss_nil)
      (pss_cons (ps_if (pt_val (pe_callB call_isi rfl B.isinstance PyProof.Rows.boot_isinstance (pa_cons (pv 1) (pa_cons (pe_bltn rfl B.bool PyProof.Rows.boot_bool (v := .ty "bool") rfl) pa_nil))))
      (pss_one (ps_ret (pe_and (pe_callB call_isi rfl B.isinstance PyProof.Rows.boot_isinstance (pa_cons (pv 0) (pa_cons (pe_bltn rfl B.bool PyProof.Rows.boot_bool (v := .ty "bool") rfl) pa_nil))) (pe_one (pe_cmpR op_eq (pv 0) (pv 1) (nomark _))))))
      pss_nil)
      (pss_cons (ps_if (pt_val (pe_callB call_isi rfl B.isinstance PyProof.Rows.boot_isinstance (pa_cons (pv 1) (pa_cons (pe_bltn rfl B.int_ PyProof.Rows.boot_int (v := .ty "int") rfl) pa_nil))))
      (pss_one (ps_ret (pe_and (pe_callB call_isi rfl B.isinstance PyProof.Rows.boot_isinstance (pa_cons (pv 0) (pa_cons (pe_bltn rfl B.int_ PyProof.Rows.boot_int (v := .ty "int") rfl) pa_nil))) (pe_and (pe_not (pe_callB call_isi rfl B.isinstance PyProof.Rows.boot_isinstance (pa_cons (pv 0) (pa_cons (pe_bltn rfl B.bool PyProof.Rows.boot_bool (v := .ty "bool") rfl) pa_nil)))) (pe_one (pe_cmpR op_eq (pv 0) (pv 1) (nomark _)))))))
      pss_nil)
      (pss_cons (ps_if (pt_val (pe_callB call_isi rfl B.isinstance PyProof.Rows.boot_isinstance (pa_cons (pv 1) (pa_cons (pe_bltn rfl B.str PyProof.Rows.boot_str (v := .ty "str") rfl) pa_nil))))
      (pss_one (ps_ret (pe_and (pe_callB call_isi rfl B.isinstance PyProof.Rows.boot_isinstance (pa_cons (pv 0) (pa_cons (pe_bltn rfl B.str PyProof.Rows.boot_str (v := .ty "str") rfl) pa_nil))) (pe_one (pe_cmpR op_eq (pv 0) (pv 1) (nomark _))))))
      pss_nil)
      (pss_cons (ps_if (pt_val (pe_callB call_isi rfl B.isinstance PyProof.Rows.boot_isinstance (pa_cons (pv 1) (pa_cons (pe_bltn rfl B.dict PyProof.Rows.boot_dict (v := .ty "dict") rfl) pa_nil))))
      (pss_one ps_never)
      pss_nil)
      (pss_cons ps_never
      (pss_cons ps_never
      (pss_cons ps_never
      (pss_cons ps_never
      (pss_one ps_never)))))))))), ?_⟩
    have ne : ∀ {x y : V}, x ≠ y → ¬ x = y := fun h => h
    rcases hx with ⟨y, rfl⟩ | ⟨i, rfl⟩
    · refine ⟨_, rfl, _, rfl, iteDN (by intro z; cases z) ?_⟩
      refine ⟨_, rfl, _, _, _, false, rfl, .str _, kit_of (by decide +kernel), _, rfl, iteF ?_⟩
      refine ⟨_, rfl, _, _, _, false, rfl, .str _, kit_of (by decide +kernel), _, rfl, iteF ?_⟩
      refine ⟨_, rfl, _, _, _, true, rfl, .str _, kit_of (by decide +kernel), _, rfl, iteT ?_⟩
      refine ⟨_, rfl, _, _, _, true, rfl, .str _, kit_of (by decide +kernel), _, rfl, iteT ?_⟩
      refine ⟨_, rfl, _, rfl, rfl, ?_⟩
      rw [decide_eq_true rfl]
      exact k
    · refine ⟨_, rfl, _, rfl, iteDN (by intro z; cases z) ?_⟩
      refine ⟨_, rfl, _, _, _, false, rfl, .int _, kit_of (by decide +kernel), _, rfl, iteF ?_⟩
      refine ⟨_, rfl, _, _, _, true, rfl, .int _, kit_of (by decide +kernel), _, rfl, iteT ?_⟩
      refine ⟨_, rfl, _, _, _, true, rfl, .int _, kit_of (by decide +kernel), _, rfl, iteT ?_⟩
      refine ⟨_, rfl, _, _, _, false, rfl, .int _, kit_of (by decide +kernel), _, rfl, _, rfl, iteT ?_⟩
      refine ⟨_, rfl, _, rfl, rfl, ?_⟩
      rw [decide_eq_true rfl]
      exact k
def spSo : Sp := fun vs H Q _ => ∃ (a b : Addr) (n : En), vs = [.ref a, .ref b] ∧ H a = some (.tup (enV n)) ∧ H b = some (.tup (enV n)) ∧ ∀ H', Kp [] H H' → Q (.bl true) H'
theorem en_len (n : En) : (enV n).length = 2 := rfl
theorem en_scal (n : En) {i : Nat} {x : V} (h : (enV n)[i]? = some x) : (∃ y, x = .str y) ∨ ∃ i, x = .int i := by
  match i, h with
  | 0, h => simp [enV] at h; subst h; exact .inl ⟨_, rfl⟩
  | 1, h => simp [enV] at h; subst h; exact .inr ⟨_, rfl⟩
  | i + 2, h => simp [enV] at h
theorem ok_so {f : Addr} {fd : FuncData} (Fn : Fun K "_law_so" "_law_so" sSo f fd) (B : Blt mg) (Dlaw_so : Df P w K mg base CX0 1 "_law_so" ["_law_found", "_law_meant"] spSo1) : FnOk P w K mg base CX0 2 f fd ["_law_found", "_law_meant"] spSo := by
  refine Fn.ok sc_So (fun vs H Q E h => ?_) (fun cdv A outer s H vs Q E hr h => ?_)
  · obtain ⟨a, b, n, rfl, _⟩ := h
    rfl
  · obtain ⟨a, b, n, rfl, ha, hb, k⟩ := h
    have nd := sc_So.nd
    refine ⟨_, (pss_cons (ps_if (pt_cmp (pc_isN (pv 1)))
      (pss_one (ps_ret (pe_cmp (pc_isN (pv 0)))))
      pss_nil)
      (pss_cons (ps_if (pt_val (pe_callB call_isi rfl B.isinstance PyProof.Rows.boot_isinstance (pa_cons (pv 1) (pa_cons (pe_bltn rfl B.bool PyProof.Rows.boot_bool (v := .ty "bool") rfl) pa_nil))))
      (pss_one (ps_ret (pe_and (pe_callB call_isi rfl B.isinstance PyProof.Rows.boot_isinstance (pa_cons (pv 0) (pa_cons (pe_bltn rfl B.bool PyProof.Rows.boot_bool (v := .ty "bool") rfl) pa_nil))) (pe_one (pe_cmpR op_eq (pv 0) (pv 1) (nomark _))))))
      pss_nil)
      (pss_cons (ps_if (pt_val (pe_callB call_isi rfl B.isinstance PyProof.Rows.boot_isinstance (pa_cons (pv 1) (pa_cons (pe_bltn rfl B.int_ PyProof.Rows.boot_int (v := .ty "int") rfl) pa_nil))))
      (pss_one (ps_ret (pe_and (pe_callB call_isi rfl B.isinstance PyProof.Rows.boot_isinstance (pa_cons (pv 0) (pa_cons (pe_bltn rfl B.int_ PyProof.Rows.boot_int (v := .ty "int") rfl) pa_nil))) (pe_and (pe_not (pe_callB call_isi rfl B.isinstance PyProof.Rows.boot_isinstance (pa_cons (pv 0) (pa_cons (pe_bltn rfl B.bool PyProof.Rows.boot_bool (v := .ty "bool") rfl) pa_nil)))) (pe_one (pe_cmpR op_eq (pv 0) (pv 1) (nomark _)))))))
      pss_nil)
      (pss_cons (ps_if (pt_val (pe_callB call_isi rfl B.isinstance PyProof.Rows.boot_isinstance (pa_cons (pv 1) (pa_cons (pe_bltn rfl B.str PyProof.Rows.boot_str (v := .ty "str") rfl) pa_nil))))
      (pss_one (ps_ret (pe_and (pe_callB call_isi rfl B.isinstance PyProof.Rows.boot_isinstance (pa_cons (pv 0) (pa_cons (pe_bltn rfl B.str PyProof.Rows.boot_str (v := .ty "str") rfl) pa_nil))) (pe_one (pe_cmpR op_eq (pv 0) (pv 1) (nomark _))))))
      pss_nil)
      (pss_cons (ps_if (pt_val (pe_callB call_isi rfl B.isinstance PyProof.Rows.boot_isinstance (pa_cons (pv 1) (pa_cons (pe_bltn rfl B.dict PyProof.Rows.boot_dict (v := .ty "dict") rfl) pa_nil))))
      (pss_one ps_never)
      pss_nil)
      (pss_cons (ps_if (pt_cmpR op_ne (pe_callB call_isi rfl B.isinstance PyProof.Rows.boot_isinstance (pa_cons (pv 1) (pa_cons (pe_bltn rfl B.tuple PyProof.Rows.boot_tuple (v := .ty "tuple") rfl) pa_nil))) (pe_callB call_isi rfl B.isinstance PyProof.Rows.boot_isinstance (pa_cons (pv 0) (pa_cons (pe_bltn rfl B.tuple PyProof.Rows.boot_tuple (v := .ty "tuple") rfl) pa_nil))) (nomark _))
      (pss_one (ps_ret pe_bl))
      pss_nil)
      (pss_cons (ps_if (PW.pt (pw_or (pt_cmpR op_ne (pe_callB call_isi rfl B.isinstance PyProof.Rows.boot_isinstance (pa_cons (pv 1) (pa_cons (pe_bltn rfl B.list_ PyProof.Rows.boot_list (v := .ty "list") rfl) pa_nil))) (pe_callB call_isi rfl B.isinstance PyProof.Rows.boot_isinstance (pa_cons (pv 0) (pa_cons (pe_bltn rfl B.list_ PyProof.Rows.boot_list (v := .ty "list") rfl) pa_nil))) (nomark _)) (pw_or1 (pt_not (pt_val (pe_callB call_isiT rfl B.isinstance PyProof.Rows.boot_isinstance (pa_cons (pv 1) (pa_cons (pe_tup (pa_cons (pe_bltn rfl B.list_ PyProof.Rows.boot_list (v := .ty "list") rfl) (pa_cons (pe_bltn rfl B.tuple PyProof.Rows.boot_tuple (v := .ty "tuple") rfl) pa_nil))) pa_nil))))))))
      (pss_one (ps_ret pe_bl))
      pss_nil)
      (pss_cons (ps_if (pt_cmpR op_ne (pe_callB call_len_seq rfl B.len PySem.boot_len (pa_cons (pv 0) pa_nil)) (pe_callB call_len_seq rfl B.len PySem.boot_len (pa_cons (pv 1) pa_nil)) (nomark _))
      (pss_one (ps_ret pe_bl))
      pss_nil)
      (pss_cons (ps_for PassesOwn.never rfl (pi_range1 rfl B.range (pa_cons (pe_callB call_len_seq rfl B.len PySem.boot_len (pa_cons (pv 1) pa_nil)) pa_nil)) (pg_name (i := 2) nd rfl (Or.inl rfl))
      (pss_one (ps_if (pt_not (pt_val (pe_fn Dlaw_so (hr.mono (by decide)) pass0 (pa_cons (pe_ix ix_tup (pv 0) (pv 2) (fun _ _ => rfl)) (pa_cons (pe_ix ix_tup (pv 1) (pv 2) (fun _ _ => rfl)) pa_nil)))))
      (pss_one (ps_ret pe_bl))
      pss_nil)))
      (pss_one (ps_ret pe_bl))))))))))), ?_⟩
    refine ⟨_, rfl, _, rfl, iteDN (by intro z; cases z) ?_⟩
    refine ⟨_, rfl, _, _, _, false, rfl, .tup hb, kit_of (by decide +kernel), _, rfl, iteF ?_⟩
    refine ⟨_, rfl, _, _, _, false, rfl, .tup hb, kit_of (by decide +kernel), _, rfl, iteF ?_⟩
    refine ⟨_, rfl, _, _, _, false, rfl, .tup hb, kit_of (by decide +kernel), _, rfl, iteF ?_⟩
    refine ⟨_, rfl, _, _, _, false, rfl, .tup hb, kit_of (by decide +kernel), _, rfl, iteF ?_⟩
    refine ⟨_, rfl, _, _, _, true, rfl, .tup hb, kit_of (by decide +kernel), _, rfl, _, _, _, true, rfl, .tup ha, kit_of (by decide +kernel), rfl, _, rfl, iteNS rfl ?_⟩
    refine ⟨_, rfl, _, _, _, false, rfl, .tup hb, kit_of (by decide +kernel), _, rfl, _, _, _, false, rfl, .tup ha, kit_of (by decide +kernel), rfl, _, rfl, iteNS rfl ?_⟩
    refine ⟨_, rfl, (by show 2 ≤ sizeLine; decide), fun tp htp => ⟨b, tp, (enV n), ["list", "tuple"], true, rfl, ?_, upd_same, rfl, _, rfl, ?_⟩⟩
    · exact (Kp.new (ex := []) htp).get hb (by simp)
    refine iteF ?_
    generalize hH1 : upd H tp (.tup [V.ty "list", V.ty "tuple"]) = H1
    have kp1 : Kp [] H H1 := by rw [← hH1]; exact Kp.new htp
    have ha1 := kp1.get ha (by simp)
    have hb1 := kp1.get hb (by simp)
    refine ⟨_, rfl, a, _, rfl, .inr (SqT.of ha1), _, rfl, b, _, rfl, .inr (SqT.of hb1), rfl, _, rfl, iteNS rfl ?_⟩
    refine ⟨_, rfl, b, _, rfl, .inr (SqT.of hb1), ?_⟩
    refine ⟨2, by rw [en_len]; rfl, by decide, by decide, ?_⟩
    refine for_range (lo := 0) (n := 2) (fun i σ H2 => ∃ v, σ = [some (.ref a), some (.ref b), v] ∧ H2 = H1) ⟨none, rfl, rfl⟩ ?_ ?_
    · rintro i σ H2 hi ⟨v, rfl, rfl⟩
      have hi' : i < (enV n).length := by rw [en_len]; exact hi
      have ex := List.getElem?_eq_getElem hi'
      have e0 : (0 : Int) + (i : Int) = (i : Int) := by omega
      refine ⟨_, rfl, _, rfl, a, _, _, (enV n)[i], rfl, rfl, SqT.of ha1, (by rw [e0]; exact atI_nat ex), ?_⟩
      refine ⟨_, rfl, _, rfl, b, _, _, (enV n)[i], rfl, rfl, SqT.of hb1, (by rw [e0]; exact atI_nat ex), ?_⟩
      refine ⟨(enV n)[i], rfl, en_scal n ex, _, rfl, iteF ?_⟩
      exact ⟨_, rfl, rfl⟩
    · rintro σ H2 ⟨v, rfl, rfl⟩
      exact k _ kp1
/-! ### what the law works out -/
def backF (b : Option Int) (e : En) : Option Int := if e.1 = "no" then some (e.2 - 1) else if e.1 = "unsure" then some e.2 else if e.1 = "undid" then some (e.2 - 1) else b
def back (t : List En) : Option Int := t.foldl backF none
def lawNx (m : Int) (t : List En) : Nx := match back t with
  | none => if (t.length : Int) = m then .dn else .dO t.length
  | some b => if b < 0 then .ud else .un b
theorem back_snoc (t : List En) (e : En) : back (t ++ [e]) = backF (back t) e := by unfold back; rw [List.foldl_append]; rfl
def bV : Option Int → V
  | none => .non
  | some b => .int b
def spLNx : Sp := fun vs H Q _ => ∃ (m : Int) (l : Addr) (as : List Addr) (t : List En), vs = [.int m, .ref l] ∧ TrAt H l as t ∧ ∀ p H', H p = none → H' p = some (.tup (lawNx m t).vs) → Kp [] H H' → Q (.ref p) H'
theorem sc_LNx : FnScope ["_law_many", "_law_trail", "_law_back", "_law_entry"] ["_law_many", "_law_trail"] (defScope sLNx) := ⟨rfl, rfl, rfl, by decide +kernel, rfl, by decide +kernel, by decide +kernel⟩
theorem ok_lnx {f : Addr} {fd : FuncData} (Fn : Fun K "_law_next" "_law_next" sLNx f fd) (B : Blt mg) : FnOk P w K mg base CX0 1 f fd ["_law_many", "_law_trail"] spLNx := by
  refine Fn.ok sc_LNx (fun vs H Q E h => ?_) (fun cdv A outer s H vs Q E hr h => ?_)
  · obtain ⟨m, l, as, t, rfl, _⟩ := h
    rfl
  · obtain ⟨m, l, as, t, rfl, T, k⟩ := h
    have nd := sc_LNx.nd
    refine ⟨_, (pss_cons (ps_set (i := 2) nd rfl (Or.inl rfl) pe_non)
      (pss_cons (ps_for PassesOwn.never rfl (pi_list (pv 1)) (pg_name (i := 3) nd rfl (Or.inl rfl))
      (pss_one (ps_if (pt_cmpR op_eq (pe_ix ix_tup (pv 3) pe_int (fun _ _ => rfl)) pe_str (nomark _))
      (pss_one (ps_set (i := 2) nd rfl (Or.inl rfl) (pe_op op_sub (pe_ix ix_tup (pv 3) pe_int (fun _ _ => rfl)) pe_int)))
      (pss_one (ps_if (pt_cmpR op_eq (pe_ix ix_tup (pv 3) pe_int (fun _ _ => rfl)) pe_str (nomark _))
      (pss_one (ps_set (i := 2) nd rfl (Or.inl rfl) (pe_ix ix_tup (pv 3) pe_int (fun _ _ => rfl))))
      (pss_one (ps_if (pt_cmpR op_eq (pe_ix ix_tup (pv 3) pe_int (fun _ _ => rfl)) pe_str (nomark _))
      (pss_one (ps_set (i := 2) nd rfl (Or.inl rfl) (pe_op op_sub (pe_ix ix_tup (pv 3) pe_int (fun _ _ => rfl)) pe_int)))
      pss_nil)))))))
      (pss_cons (ps_if (pt_cmp (pc_isN (pv 2)))
      (pss_cons (ps_if (pt_cmpR op_eq (pe_callB call_len_seq rfl B.len PySem.boot_len (pa_cons (pv 1) pa_nil)) (pv 0) (nomark _))
      (pss_one (ps_ret (pe_tup (pa_cons pe_str (pa_cons pe_str pa_nil)))))
      pss_nil)
      (pss_one (ps_ret (pe_tup (pa_cons pe_str (pa_cons (pe_callB call_len_seq rfl B.len PySem.boot_len (pa_cons (pv 1) pa_nil)) pa_nil))))))
      pss_nil)
      (pss_cons (ps_if (pt_cmpR op_lt (pv 2) pe_int (nomark _))
      (pss_one (ps_ret (pe_tup (pa_cons pe_str (pa_cons pe_str pa_nil)))))
      pss_nil)
      (pss_one (ps_ret (pe_tup (pa_cons pe_str (pa_cons (pv 2) pa_nil))))))))), ?_⟩
    refine ⟨_, rfl, l, rfl, ⟨_, SqL.of T.ls⟩, ?_⟩
    refine for_list (K := K) (a := l) (xs := as.map V.ref) (fun i σ H2 => ∃ v, σ = [some (.int m), some (.ref l), some (bV (back (t.take i))), v] ∧ H2 = H) ⟨none, rfl, rfl⟩ (fun i σ H2 _ ⟨_, _, e⟩ => by rw [e]; exact SqL.of T.ls) ?_ ?_
    · rintro i x σ H2 hx ⟨v, rfl, rfl⟩
      rw [List.getElem?_map] at hx
      cases ea : as[i]? with
      | none => rw [ea] at hx; cases hx
      | some a =>
        rw [ea] at hx
        obtain rfl : V.ref a = x := Option.some.inj hx
        obtain ⟨⟨y, n⟩, et, ha⟩ := T.en.get ea
        have eB := back_snoc (t.take i) (y, n)
        rw [← take_next et] at eB
        unfold backF at eB
        dsimp only at eB
        refine ⟨_, rfl, a, _, _, _, rfl, rfl, SqT.of ha, atI_nat (j := 0) rfl, rfl, _, rfl, ?_⟩
        refine ite2 (fun h => ?_) (fun h => ?_)
        · rw [if_pos (V.str.inj (of_decide_eq_true h))] at eB
          refine ⟨_, rfl, a, _, _, _, rfl, rfl, SqT.of ha, atI_nat (j := 1) rfl, _, _, rfl, rfl, ?_⟩
          exact ⟨_, by rw [eB]; rfl, rfl⟩
        rw [if_neg (fun z => h (decide_eq_true (congrArg V.str z)))] at eB
        refine ⟨_, rfl, a, _, _, _, rfl, rfl, SqT.of ha, atI_nat (j := 0) rfl, rfl, _, rfl, ?_⟩
        refine ite2 (fun h => ?_) (fun h => ?_)
        · rw [if_pos (V.str.inj (of_decide_eq_true h))] at eB
          refine ⟨_, rfl, a, _, _, _, rfl, rfl, SqT.of ha, atI_nat (j := 1) rfl, ?_⟩
          exact ⟨_, by rw [eB]; rfl, rfl⟩
        rw [if_neg (fun z => h (decide_eq_true (congrArg V.str z)))] at eB
        refine ⟨_, rfl, a, _, _, _, rfl, rfl, SqT.of ha, atI_nat (j := 0) rfl, rfl, _, rfl, ?_⟩
        refine ite2 (fun h => ?_) (fun h => ?_)
        · rw [if_pos (V.str.inj (of_decide_eq_true h))] at eB
          refine ⟨_, rfl, a, _, _, _, rfl, rfl, SqT.of ha, atI_nat (j := 1) rfl, _, _, rfl, rfl, ?_⟩
          exact ⟨_, by rw [eB]; rfl, rfl⟩
        rw [if_neg (fun z => h (decide_eq_true (congrArg V.str z)))] at eB
        exact ⟨_, by rw [eB]; rfl, rfl⟩
    · rintro σ H2 ⟨v, rfl, rfl⟩
      have e : t.take (as.map V.ref).length = t := by rw [List.length_map, T.en.len, List.take_length]
      rw [e]
      unfold lawNx at k
      cases hb : back t with
      | none =>
        rw [hb] at k
        refine ⟨_, rfl, _, rfl, iteD rfl ?_⟩
        refine ⟨_, rfl, l, _, rfl, .inl (SqL.of T.ls), _, rfl, rfl, _, rfl, ?_⟩
        rw [List.length_map, T.en.len]
        refine ite2 (fun h => ?_) (fun h => ?_)
        · have h' := V.int.inj (of_decide_eq_true h)
          dsimp only at k
          rw [if_pos h'] at k
          exact ⟨(by show 2 ≤ sizeLine; decide), fun p hp => k p _ hp upd_same (Kp.new hp)⟩
        · dsimp only at k
          rw [if_neg (fun z => h (decide_eq_true (congrArg V.int z)))] at k
          refine ⟨_, rfl, l, _, rfl, .inl (SqL.of T.ls), (by show 2 ≤ sizeLine; decide), fun p hp => k p _ hp ?_ (Kp.new hp)⟩
          rw [upd_same, List.length_map, T.en.len]; rfl
      | some b =>
        rw [hb] at k
        refine ⟨_, rfl, _, rfl, iteDN (by intro z; cases z) ?_⟩
        refine ⟨_, rfl, _, _, rfl, rfl, _, rfl, ?_⟩
        refine ite2 (fun h => ?_) (fun h => ?_)
        · dsimp only at k
          rw [if_pos (of_decide_eq_true h)] at k
          exact ⟨(by show 2 ≤ sizeLine; decide), fun p hp => k p _ hp upd_same (Kp.new hp)⟩
        · dsimp only at k
          rw [if_neg (fun z => h (decide_eq_true z))] at k
          exact ⟨_, rfl, (by show 2 ≤ sizeLine; decide), fun p hp => k p _ hp upd_same (Kp.new hp)⟩
end
end K12

end
section
set_option Elab.async false
set_option linter.all false
set_option maxRecDepth 100000
set_option maxHeartbeats 4000000
namespace K12
open PySem L2
/-! ### a trail that can be: what the law and the program work out is the same -/
def Rel (m : Int) (t : List En) (c : Nx) : Prop := (back t = none ∧ (t.length : Int) ≤ m ∧ c = doD m t.length) ∨ ∃ b, back t = some b ∧ c = unD b
theorem Rel.next {m : Int} {t : List En} {c : Nx} (h : Rel m t c) : c = lawNx m t := by
  unfold lawNx
  rcases h with ⟨h1, h2, rfl⟩ | ⟨b, h1, rfl⟩
  · rw [h1]
    unfold doD
    dsimp only
    by_cases e : (t.length : Int) = m
    · rw [if_pos e, if_neg (by omega)]
    · rw [if_neg e, if_pos (by omega)]
  · rw [h1]
    unfold unD
    dsimp only
    by_cases e : b < 0
    · rw [if_pos e, if_neg (by omega)]
    · rw [if_neg e, if_pos (by omega)]
theorem w_ne : ¬ (("did" : Str) = "no") ∧ ¬ (("did" : Str) = "unsure") ∧ ¬ (("did" : Str) = "undid") ∧ ¬ (("no" : Str) = "did") ∧ ¬ (("no" : Str) = "unsure") ∧ ¬ (("unsure" : Str) = "did") ∧ ¬ (("unsure" : Str) = "no") ∧ ¬ (("undid" : Str) = "did") ∧ ¬ (("undid" : Str) = "unsure") ∧ ¬ (("undid" : Str) = "no") := by decide +kernel
theorem Rel.step {m : Int} {t : List En} {c : Nx} {e : En} (h : Rel m t c) (hs : stands e c = true) : Rel m (t ++ [e]) (nb m e) := by
  obtain ⟨n1, n2, n3, n4, n5, n6, n7, n8, n9, n10⟩ := w_ne
  obtain ⟨y, i⟩ := e
  unfold Rel
  rw [back_snoc]
  unfold backF nb
  dsimp only
  rcases h with ⟨h1, h2, rfl⟩ | ⟨b, h1, rfl⟩
  · unfold doD at hs
    split at hs
    · rename_i hlt
      have hs := of_decide_eq_true hs
      dsimp only at hs
      obtain ⟨hw, rfl⟩ := hs
      rcases hw with rfl | rfl | rfl
      · refine .inl ⟨?_, ?_, ?_⟩
        · rw [if_neg n1, if_neg n2, if_neg n3]; exact h1
        · simp; omega
        · rw [if_pos rfl]; simp
      · refine .inr ⟨_, by rw [if_pos rfl], ?_⟩
        rw [if_neg n4, if_neg n5]
      · refine .inr ⟨_, by rw [if_neg n7, if_pos rfl], ?_⟩
        rw [if_neg n6, if_pos rfl]
    · cases hs
  · unfold unD at hs
    split at hs
    · have hs := of_decide_eq_true hs
      dsimp only at hs
      obtain ⟨rfl, rfl⟩ := hs
      refine .inr ⟨_, by rw [if_neg n10, if_neg n9, if_pos rfl], ?_⟩
      rw [if_neg n8, if_neg n9]
    · cases hs
theorem rel_nil {m : Int} (hm : 0 ≤ m) : Rel m [] (nxOf m []) := .inl ⟨rfl, by simpa using hm, rfl⟩
theorem rel_all {m : Int} {t : List En} (hm : 0 ≤ m) : ∀ k, k ≤ t.length → (∀ j, j < k → okAt m t j = true) → Rel m (t.take k) (nxOf m (t.take k))
  | 0, _, _ => by rw [List.take_zero]; exact rel_nil hm
  | k + 1, hk, h => by
    have ih := rel_all hm k (by omega) fun j hj => h j (by omega)
    have et : t[k]? = some t[k] := List.getElem?_eq_getElem (by omega)
    have ho := h k (by omega)
    unfold okAt at ho
    rw [et] at ho
    rw [take_next et, nxOf_snoc]
    exact ih.step ho
def lawAt (m : Int) (t : List En) (k : Nat) : Bool := match t[k]? with
  | some e => stands e (lawNx m (t.take k))
  | none => true
def lawCan (m : Int) (t : List En) : Bool := (List.range t.length).all (lawAt m t)
/-! ### the trail that the law makes -/
def saids : List Str := ["did", "did", "did", "did", "did", "no", "unsure"]
def trailStep (m : Int) (t : List En) (c : Int) : List En := match lawNx m t with
  | .un s => t ++ [(("undid" : Str), s)]
  | .dO s => t ++ [(saids.getD (c * 48271 % 1009 % 7).toNat "", s)]
  | _ => t
def trailOf (m : Int) (cs : List Int) : List En := cs.foldl (trailStep m) []
theorem trailOf_snoc (m : Int) (cs : List Int) (c : Int) : trailOf m (cs ++ [c]) = trailStep m (trailOf m cs) c := by unfold trailOf; rw [List.foldl_append]; rfl
structure Good (m : Int) (t : List En) : Prop where
  ok : ∀ j, j < t.length → okAt m t j = true
theorem Good.nx {m : Int} {t : List En} (hm : 0 ≤ m) (h : Good m t) : nxOf m t = lawNx m t := by
  have := (rel_all hm t.length (Nat.le_refl _) h.ok).next
  rw [List.take_length] at this
  exact this
theorem okAt_app {m : Int} {t : List En} {e : En} {j : Nat} (hj : j < t.length) : okAt m (t ++ [e]) j = okAt m t j := by
  unfold okAt
  rw [List.getElem?_append_left hj, List.take_append_of_le_length (by omega)]
theorem Good.app {m : Int} {t : List En} {e : En} (hm : 0 ≤ m) (h : Good m t) (hs : stands e (lawNx m t) = true) : Good m (t ++ [e]) := ⟨fun j hj => by
  by_cases e1 : j < t.length
  · rw [okAt_app e1]; exact h.ok j e1
  · have e2 : j = t.length := by simp at hj; omega
    subst e2
    unfold okAt
    rw [List.getElem?_append_right (Nat.le_refl _)]
    simp only [Nat.sub_self, List.getElem?_cons_zero]
    rw [List.take_append_of_le_length (Nat.le_refl _), List.take_length, h.nx hm]
    exact hs⟩
theorem said_mem (n : Nat) (h : n < 7) : saids.getD n "" = "did" ∨ saids.getD n "" = "no" ∨ saids.getD n "" = "unsure" := by
  match n, h with
  | 0, _ => exact .inl rfl
  | 1, _ => exact .inl rfl
  | 2, _ => exact .inl rfl
  | 3, _ => exact .inl rfl
  | 4, _ => exact .inl rfl
  | 5, _ => exact .inr (.inl rfl)
  | 6, _ => exact .inr (.inr rfl)
theorem good_step {m : Int} {t : List En} (hm : 0 ≤ m) (h : Good m t) (c : Int) : Good m (trailStep m t c) := by
  unfold trailStep
  cases e : lawNx m t with
  | un s => exact h.app hm (by rw [e]; exact decide_eq_true ⟨rfl, rfl⟩)
  | dO s =>
    have hp := emod_pick (c * 48271) 1009 7 (by decide) (by decide)
    exact h.app hm (by rw [e]; exact decide_eq_true ⟨said_mem _ (by omega), rfl⟩)
  | dn => exact h
  | ud => exact h
theorem good_trail {m : Int} (hm : 0 ≤ m) (cs : List Int) : Good m (trailOf m cs) := by
  unfold trailOf
  have : ∀ (cs : List Int) (t : List En), Good m t → Good m (cs.foldl (trailStep m) t) := by
    intro cs
    induction cs with
    | nil => exact fun t h => h
    | cons c cs ih => exact fun t h => ih _ (good_step hm h c)
  exact this cs [] ⟨fun j hj => absurd hj (Nat.not_lt_zero j)⟩
theorem step_len (m : Int) (t : List En) (c : Int) : (trailStep m t c).length ≤ t.length + 1 := by
  unfold trailStep
  split <;> simp
theorem trail_len (m : Int) (cs : List Int) : (trailOf m cs).length ≤ cs.length := by
  unfold trailOf
  have : ∀ (cs : List Int) (t : List En), (cs.foldl (trailStep m) t).length ≤ t.length + cs.length := by
    intro cs
    induction cs with
    | nil => exact fun t => by simp
    | cons c cs ih =>
      intro t
      have h1 := ih (trailStep m t c)
      have h2 := step_len m t c
      simp only [List.foldl_cons, List.length_cons]
      omega
  have := this cs []
  simpa using this
theorem Good.okT {m : Int} {t : List En} (h : Good m t) : okT m t = true := okT_true h.ok
theorem cut_lo {α : Type} (f : α → V) (as : List α) (k : Nat) : cutV (as.map f) (some (k : Int)) none = (as.drop k).map f := by
  unfold cutV
  rw [HT.sIx_none, HT.sIx_nat, List.length_map, ← List.map_drop, ← List.map_take]
  congr 1
  by_cases h : k ≤ as.length
  · rw [Nat.min_eq_left h, List.take_of_length_le (by simp)]
  · rw [Nat.min_eq_right (by omega), List.drop_length, List.drop_of_length_le (by omega)]; simp
section
variable {P : Program} {w : World} {K : PySem.W.Frag} {mg : Str → Option Value} {base : Heap}
def spTOf (K : PySem.W.Frag) : Sp := fun vs H Q _ => ∃ (m : Int) (a : Addr) (ns : List Int), vs = [.int m, .ref a] ∧ SqL K H a (ns.map V.int) ∧ ns.length ≤ 100 ∧ ∀ l as H', H l = none → TrAt H' l as (trailOf m ns) → Kp [] H H' → Q (.ref l) H'
/-- an entry is appended -/
theorem TrAt.push {H : Hp} {l a : Addr} {as : List Addr} {t : List En} {e : En} (T : TrAt H l as t) (ha : H a = some (.tup (enV e))) : TrAt (upd H l (.lst (as.map V.ref ++ [.ref a]))) l (as ++ [a]) (t ++ [e]) := by
  have kp : Kp [l] H (upd H l (.lst (as.map V.ref ++ [.ref a]))) := Kp.put (by simp)
  have nl : ∀ b ∈ [l], ∀ e, H b ≠ some (.tup e) := fun b hb e z => by simp at hb; subst hb; rw [T.ls] at z; cases z
  refine ⟨by rw [upd_same, List.map_append]; rfl, (T.en.keep kp nl).app (.one (kp.get ha fun z => nl a z _ ha))⟩
theorem sc_TOf : FnScope ["_law_many", "_law_cells", "_law_trail", "_law_cell", "_law_word", "_law_step", "_law_said"] ["_law_many", "_law_cells"] (defScope sTOf) := ⟨rfl, rfl, rfl, by decide +kernel, rfl, by decide +kernel, by decide +kernel⟩
theorem ok_tof {f : Addr} {fd : FuncData} (Fn : Fun K "_law_trail_of" "_law_trail_of" sTOf f fd) (Dlaw_next : Df P w K mg base CX0 1 "_law_next" ["_law_many", "_law_trail"] spLNx) : FnOk P w K mg base CX0 2 f fd ["_law_many", "_law_cells"] (spTOf K) := by
  refine Fn.ok sc_TOf (fun vs H Q E h => ?_) (fun cdv A outer s H vs Q E hr h => ?_)
  · obtain ⟨m, a, ns, rfl, _⟩ := h
    rfl
  · obtain ⟨m, a, ns, rfl, hS, hn, k⟩ := h
    have nd := sc_TOf.nd
    refine ⟨_, (pss_cons (ps_set (i := 2) nd rfl (Or.inl rfl) (pe_lst pa_nil))
      (pss_cons (ps_for PassesOwn.never rfl (pi_list (pv 1)) (pg_name (i := 3) nd rfl (Or.inl rfl))
      (pss_cons (ps_asg (pe_fn Dlaw_next (hr.mono (by decide)) pass0 (pa_cons (pv 0) (pa_cons (pv 2) pa_nil))) (pg_tup rfl (pgs_cons (pg_name (i := 4) nd rfl (Or.inl rfl)) (pgs_cons (pg_name (i := 5) nd rfl (Or.inl rfl)) pgs_nil))))
      (pss_cons (ps_if (pt_cmpR op_eq (pv 4) pe_str (nomark _))
      (pss_one (ps_expr (pe_bm PySem.F.plainAttrs_list PySem.F.slot_list_append PySem.F.type_list_append mt_append (pv 2) (pa_cons (pe_tup (pa_cons pe_str (pa_cons (pv 5) pa_nil))) pa_nil))))
      pss_nil)
      (pss_one (ps_if (pt_cmpR op_eq (pv 4) pe_str (nomark _))
      (pss_cons (ps_set (i := 6) nd rfl (Or.inl rfl) (pe_ix ix_list (pe_lst (pa_cons pe_str (pa_cons pe_str (pa_cons pe_str (pa_cons pe_str (pa_cons pe_str (pa_cons pe_str (pa_cons pe_str pa_nil)))))))) (pe_op op_mod (pe_op op_mod (pe_op op_mul (pv 3) pe_int) pe_int) pe_int) (fun _ _ => rfl)))
      (pss_one (ps_expr (pe_bm PySem.F.plainAttrs_list PySem.F.slot_list_append PySem.F.type_list_append mt_append (pv 2) (pa_cons (pe_tup (pa_cons (pv 6) (pa_cons (pv 5) pa_nil))) pa_nil)))))
      pss_nil)))))
      (pss_one (ps_ret (pv 2))))), ?_⟩
    refine ⟨(by show 0 ≤ sizeLine; decide), fun l hl => ?_⟩
    have kp0 : Kp [] H (upd H l (.lst [])) := Kp.new hl
    refine ⟨_, rfl, a, rfl, ⟨_, kp0.seq (by simp) hS⟩, ?_⟩
    refine for_list (K := K) (a := a) (xs := ns.map V.int) (fun i σ H2 => ∃ as v3 v4 v5 v6, σ = [some (.int m), some (.ref a), some (.ref l), v3, v4, v5, v6] ∧ Kp [] H H2 ∧ TrAt H2 l as (trailOf m (ns.take i)))
      ⟨[], none, none, none, none, rfl, kp0, upd_same, .nil _⟩ (fun i σ H2 _ ⟨_, _, _, _, _, _, e, _⟩ => e.seq (by simp) hS) ?_ ?_
    · rintro i x σ H2 hx ⟨as, v3, v4, v5, v6, rfl, kp2, T2⟩
      rw [List.getElem?_map] at hx
      cases ec : ns[i]? with
      | none => rw [ec] at hx; cases hx
      | some c =>
        rw [ec] at hx
        obtain rfl : V.int c = x := Option.some.inj hx
        have eT := trailOf_snoc m (ns.take i) c
        rw [← take_next ec] at eT
        have hlen : as.length ≤ 100 := by
          rw [T2.en.len]
          have := trail_len m (ns.take i)
          rw [List.length_take] at this
          omega
        have nl2 : ∀ {H3 : Hp} {o : HO}, Kp [] H H3 → Kp [] H (upd H3 l o) := fun kp b u e n => by rw [upd_ne (ne_of_none e hl)]; exact kp b u e n
        have small : as.length < sizeLine := Nat.lt_of_le_of_lt hlen (by decide)
        refine ⟨_, rfl, _, rfl, m, l, as, _, rfl, T2, fun p H3 hp hp3 kp3 => ?_⟩
        have T3 := T2.same kp3
        unfold trailStep at eT
        cases en : lawNx m (trailOf m (ns.take i)) with
        | un j =>
          rw [en] at hp3 eT
          refine ⟨p, _, rfl, SqT.of hp3, rfl, _, _, rfl, _, _, rfl, rfl, ?_⟩
          refine ⟨_, rfl, rfl, _, rfl, iteD rfl ?_⟩
          refine ⟨_, rfl, .inl ⟨rfl, _, SqL.of T3.ls⟩, _, rfl, (by show 2 ≤ sizeLine; decide), fun q hq => ?_⟩
          have kp4 : Kp [] H3 (upd H3 q (.tup (enV ("undid", j)))) := Kp.new hq
          have T4 := T3.same kp4
          refine ⟨l, _, _, rfl, rfl, T4.ls, by rw [List.length_map]; exact small, ?_⟩
          refine ⟨_, rfl, rfl, _, rfl, iteDN (by intro z; exact absurd (V.str.inj z) (by decide +kernel)) ?_⟩
          refine ⟨as ++ [q], _, _, _, _, rfl, nl2 ((kp2.trans kp3).trans kp4), ?_⟩
          rw [eT]
          exact T4.push upd_same
        | dO j =>
          rw [en] at hp3 eT
          refine ⟨p, _, rfl, SqT.of hp3, rfl, _, _, rfl, _, _, rfl, rfl, ?_⟩
          refine ⟨_, rfl, rfl, _, rfl, iteDN (by intro z; exact absurd (V.str.inj z) (by decide +kernel)) ?_⟩
          refine ⟨_, rfl, rfl, _, rfl, iteD rfl ?_⟩
          have hp := emod_pick (c * 48271) 1009 7 (by decide) (by decide)
          refine ⟨(by show 7 ≤ sizeLine; decide), fun ls hls => ⟨_, rfl, _, _, rfl, rfl, .inr ⟨by decide, by decide⟩, _, _, rfl, rfl, (by show (0 : Int) < _; decide), _, _, rfl, rfl, (by show (0 : Int) < _; decide), ?_⟩⟩
          refine pickR V.str saids hls hp.1 hp.2 (fun y H4 hy kp4 => ?_)
          have ey : saids.getD (c * 48271 % 1009 % 7).toNat "" = y := by rw [List.getD_eq_getElem?_getD, hy]; rfl
          rw [ey] at eT
          have T4 := T3.same kp4
          refine ⟨_, rfl, .inl ⟨rfl, _, SqL.of T4.ls⟩, _, rfl, _, rfl, (by show 2 ≤ sizeLine; decide), fun q hq => ?_⟩
          have kp5 : Kp [] H4 (upd H4 q (.tup (enV (y, j)))) := Kp.new hq
          have T5 := T4.same kp5
          refine ⟨l, _, _, rfl, rfl, T5.ls, by rw [List.length_map]; exact small, ?_⟩
          refine ⟨as ++ [q], _, _, _, _, rfl, nl2 (((kp2.trans kp3).trans kp4).trans kp5), ?_⟩
          rw [eT]
          exact T5.push upd_same
        | dn =>
          rw [en] at hp3 eT
          refine ⟨p, _, rfl, SqT.of hp3, rfl, _, _, rfl, _, _, rfl, rfl, ?_⟩
          refine ⟨_, rfl, rfl, _, rfl, iteDN (by intro z; exact absurd (V.str.inj z) (by decide +kernel)) ?_⟩
          refine ⟨_, rfl, rfl, _, rfl, iteDN (by intro z; exact absurd (V.str.inj z) (by decide +kernel)) ?_⟩
          exact ⟨as, _, _, _, _, rfl, kp2.trans kp3, by rw [eT]; exact T3⟩
        | ud =>
          rw [en] at hp3 eT
          refine ⟨p, _, rfl, SqT.of hp3, rfl, _, _, rfl, _, _, rfl, rfl, ?_⟩
          refine ⟨_, rfl, rfl, _, rfl, iteDN (by intro z; exact absurd (V.str.inj z) (by decide +kernel)) ?_⟩
          refine ⟨_, rfl, rfl, _, rfl, iteDN (by intro z; exact absurd (V.str.inj z) (by decide +kernel)) ?_⟩
          exact ⟨as, _, _, _, _, rfl, kp2.trans kp3, by rw [eT]; exact T3⟩
    · rintro σ H2 ⟨as, v3, v4, v5, v6, rfl, kp2, T2⟩
      have e : ns.take (ns.map V.int).length = ns := by rw [List.length_map, List.take_length]
      rw [e] at T2
      exact ⟨_, rfl, k l as H2 hl T2 kp2⟩
end
end K12

end
section
set_option Elab.async false
set_option linter.all false
set_option maxRecDepth 100000
set_option maxHeartbeats 4000000
namespace K12
open PySem L2
/-! ### lines as plain texts -/
def FGS : Str := "0123456789"
def wd4 : List Str := ["did", "no", "unsure", "undid"]
def isNum (x : Str) : Bool := !(decide (x = "") || !decide (Txt.stripChars x "0123456789" = "")) && (decide (x = "0") || !decide ((⟨#[x.cps.getD 0 0]⟩ : Str) = "0"))
def occ (c : Nat) : List Nat := Builtin.Str.occurrences FGS ⟨#[c]⟩ 0 FGS.length 1
def figs (x : Str) : Bool := x.cps.all (· < 128) && x.cps.toList.all fun c => !(occ c).isEmpty
def numStep (n : Int) (c : Nat) : Int := n * 10 + ((occ c).headD 0 : Nat)
def numOf (x : Str) : Int := x.cps.toList.foldl numStep 0
def lineE (x : Str) : Option En := if (wd4.any fun y => decide (y = (Txt.partition x " ").1)) && isNum (Txt.partition x " ").2.2 then some ((Txt.partition x " ").1, numOf (Txt.partition x " ").2.2) else none
def fine (x : Str) : Bool := decide (x.length ≤ 1000) && decide ((Txt.partition x " ").2.2.length ≤ 1000) && (!isNum (Txt.partition x " ").2.2 || figs (Txt.partition x " ").2.2)
def lineOf (e : En) : Str := e.1 ++ (" " : Str) ++ Str.ofString (toString e.2)
section
variable {P : Program} {w : World} {K : PySem.W.Frag} {mg : Str → Option Value} {base : Heap}
def spShown : Sp := fun vs H Q _ => ∃ (l : Addr) (as : List Addr) (t : List En), vs = [.ref l] ∧ TrAt H l as t ∧ t.length ≤ 500 ∧ (∀ e ∈ t, e.1.length ≤ 1000 ∧ e.2.natAbs.log2 < 1920) ∧
  ∀ p H', H p = none → H' p = some (.lst ((t.map lineOf).map V.str)) → Kp [] H H' → Q (.ref p) H'
theorem sc_Shown : FnScope ["trail"] ["trail"] (defScope sShown) := ⟨rfl, rfl, rfl, by decide +kernel, rfl, by decide +kernel, by decide +kernel⟩
theorem ok_shown {f : Addr} {fd : FuncData} (Fn : Fun K "shown" "shown" sShown f fd) : FnOk P w K mg base CX0 1 f fd ["trail"] spShown := by
  refine Fn.ok sc_Shown (fun vs H Q E h => ?_) (fun cdv A outer s H vs Q E hr h => ?_)
  · obtain ⟨l, as, t, rfl, _⟩ := h
    rfl
  · obtain ⟨l, as, t, rfl, T, hz, hs, k⟩ := h
    have nd := sc_Shown.nd
    refine ⟨_, (pss_one (ps_ret (pe_comp (NB := ["word", "step"]) (ix := [none, none]) rfl ⟨rfl, rfl, by decide +kernel, by decide +kernel, trivial, rfl, rfl, rfl, trivial⟩ (pi_list (pv 0)) (fun _ _ _ _ _ => (pg_tupK (K := K) (n := 2) rfl rfl (pgs_cons (pg_name (i := 0) (show (["word", "step"] : List Str).Nodup by decide +kernel) rfl (Or.inl rfl)) (pgs_cons (pg_name (i := 1) (show (["word", "step"] : List Str).Nodup by decide +kernel) rfl (Or.inl rfl)) pgs_nil)))) (fun _ _ _ _ _ => pcs_nil) (fun _ _ _ _ _ => (pe_fmt2 (pv 0) (pv 1) (by decide +kernel)))))), ?_⟩
    refine ⟨_, rfl, l, rfl, ⟨_, SqL.of T.ls⟩, fun D0 hD => ?_⟩
    refine comp_list (xs := as.map V.ref) (fun i σ ys H2 => ∃ v0 v1 : Option V, σ = [v0, v1] ∧ ys = ((t.take i).map lineOf).map V.str ∧ Kp [] H H2 ∧ H2 D0 = some (.lst ys)) ?_ ?_ ?_ ?_
    · exact ⟨none, none, rfl, rfl, Kp.new hD, upd_same⟩
    · rintro i σ ys H2 hi ⟨v0, v1, rfl, ey, kp, hy⟩
      exact ⟨SqL.of (kp.get T.ls (by simp)), hy⟩
    · rintro i x σ ys H2 hx ⟨v0, v1, rfl, ey, kp, hy⟩
      rw [List.getElem?_map] at hx
      cases ea : as[i]? with
      | none => rw [ea] at hx; cases hx
      | some a =>
        rw [ea] at hx
        obtain rfl : V.ref a = x := Option.some.inj hx
        have T2 := T.same kp
        obtain ⟨⟨y, n⟩, et, ha⟩ := T2.en.get ea
        have hi : i < t.length := (List.getElem?_eq_some_iff.mp et).1
        have hm := hs (y, n) (List.mem_of_getElem? et)
        refine ⟨a, _, rfl, SqT.of ha, rfl, _, _, rfl, _, _, rfl, rfl, ?_⟩
        refine ⟨_, rfl, _, rfl, hm.1, _, rfl, _, rfl, hm.2, hy, ?_, _, _, rfl, ?_, ?_, upd_same⟩
        · rw [ey, List.length_map, List.length_map, List.length_take]
          exact Nat.lt_of_le_of_lt (Nat.le_trans (Nat.min_le_right _ _) hz) (show 500 < sizeLine by decide)
        · rw [take_next et, List.map_append, List.map_append, ey]; rfl
        · intro b o e hn
          rw [upd_ne (ne_of_none e hD)]
          exact kp b o e hn
    · rintro σ ys H2 ⟨v0, v1, rfl, ey, kp, hy⟩
      have e : t.take (as.map V.ref).length = t := by rw [List.length_map, T.en.len, List.take_length]
      rw [e] at ey
      subst ey
      exact k D0 H2 hD hy kp
def spIsN : Sp := fun vs H Q _ => ∃ x : Str, vs = [.str x] ∧ x.length ≤ 1000 ∧ Q (.bl (isNum x)) H
theorem sc_IsN : FnScope ["text"] ["text"] (defScope sIsN) := ⟨rfl, rfl, rfl, by decide +kernel, rfl, by decide +kernel, by decide +kernel⟩
theorem ok_isn {f : Addr} {fd : FuncData} {fgt : Tok} (Fn : Fun K "is_number" "is_number" sIsN f fd) (g_FG : mg "FIGURES" = some (.str "0123456789" fgt)) : FnOk P w K mg base CX0 1 f fd ["text"] spIsN := by
  refine Fn.ok sc_IsN (fun vs H Q E h => ?_) (fun cdv A outer s H vs Q E hr h => ?_)
  · obtain ⟨x, rfl, _⟩ := h
    rfl
  · obtain ⟨x, rfl, hl, k⟩ := h
    have big : (1000 : Nat) ≤ sizeLine := by decide
    refine ⟨_, (pss_cons (ps_if (PW.pt (pw_or (pt_cmpR op_eq (pv 0) pe_str (nomark _)) (pw_or1 (pt_cmpR op_ne (pe_bm PySem.F.plainAttrs_str PySem.F.slot_str_strip PySem.F.type_str_strip mt_strip (pv 0) (pa_cons (pe_glob rfl g_FG (v := .str "0123456789") ⟨_, rfl⟩) pa_nil)) pe_str (nomark _)))))
      (pss_one (ps_ret pe_bl))
      pss_nil)
      (pss_one (ps_ret (pe_or (pe_cmpR op_eq (pv 0) pe_str (nomark _)) (pe_one (pe_cmpR op_ne (pe_ix ix_str (pv 0) pe_int (fun _ _ => rfl)) pe_str (nomark _))))))), ?_⟩
    refine ⟨_, rfl, rfl, _, rfl, ?_⟩
    by_cases e1 : x = ""
    · refine iteD (congrArg V.str e1) (iteT ?_)
      have : isNum x = false := by unfold isNum; rw [decide_eq_true e1]; rfl
      rw [this] at k
      exact k
    refine iteDN (fun z => e1 (V.str.inj z)) ?_
    refine ⟨_, rfl, rfl, x, "0123456789", rfl, rfl, by omega, rfl, _, rfl, ?_⟩
    by_cases e2 : Txt.stripChars x "0123456789" = ""
    · have en : (!decide (V.str (Txt.stripChars x "0123456789") = V.str "")) = false := by
        rw [decide_eq_true (congrArg V.str e2)]; rfl
      rw [en]
      refine iteF ?_
      have hk : isNum x = (decide (x = "0") || !decide ((⟨#[x.cps.getD 0 0]⟩ : Str) = "0")) := by
        unfold isNum
        rw [decide_eq_false e1, decide_eq_true e2]
        rfl
      rw [hk] at k
      refine ⟨_, rfl, rfl, _, rfl, ?_⟩
      by_cases e3 : x = "0"
      · refine iteD (congrArg V.str e3) ?_
        rw [decide_eq_true e3] at k
        exact k
      · refine iteDN (fun z => e3 (V.str.inj z)) ?_
        have hpos : 0 < x.cps.toList.length := by
          rw [Array.length_toList]
          refine Nat.pos_of_ne_zero fun z => e1 ?_
          obtain ⟨c⟩ := x
          have : c = #[] := Array.eq_empty_of_size_eq_zero z
          rw [this]; rfl
        have ex : x.cps.toList[0]? = some (x.cps.getD 0 0) := by
          rw [List.getElem?_eq_getElem hpos]
          simp [Array.getD_eq_getD_getElem?]
          rw [Array.length_toList] at hpos
          rw [Array.getElem?_eq_getElem hpos]; rfl
        refine ⟨_, rfl, x, 0, _, rfl, rfl, by omega, atI_nat (j := 0) ex, rfl, ?_⟩
        rw [decide_eq_false e3, Bool.false_or] at k
        have : decide (V.str (⟨#[x.cps.getD 0 0]⟩ : Str) = V.str "0") = decide ((⟨#[x.cps.getD 0 0]⟩ : Str) = "0") := by
          rw [decide_eq_decide]; exact ⟨fun z => V.str.inj z, fun z => congrArg V.str z⟩
        rw [this]
        exact k
    · have en : (!decide (V.str (Txt.stripChars x "0123456789") = V.str "")) = true := by
        rw [decide_eq_false (fun z => e2 (V.str.inj z))]; rfl
      rw [en]
      refine iteT ?_
      have : isNum x = false := by unfold isNum; rw [decide_eq_false e2]; simp
      rw [this] at k
      exact k
def spNum : Sp := fun vs H Q _ => ∃ x : Str, vs = [.str x] ∧ figs x = true ∧ Q (.int (numOf x)) H
theorem sc_Num : FnScope ["figures", "number", "figure"] ["figures"] (defScope sNum) := ⟨rfl, rfl, rfl, by decide +kernel, rfl, by decide +kernel, by decide +kernel⟩
theorem ok_num {f : Addr} {fd : FuncData} {fgt : Tok} (Fn : Fun K "number_of" "number_of" sNum f fd) (g_FG : mg "FIGURES" = some (.str "0123456789" fgt)) : FnOk P w K mg base CX0 1 f fd ["figures"] spNum := by
  refine Fn.ok sc_Num (fun vs H Q E h => ?_) (fun cdv A outer s H vs Q E hr h => ?_)
  · obtain ⟨x, rfl, _⟩ := h
    rfl
  · obtain ⟨x, rfl, hf, k⟩ := h
    have nd := sc_Num.nd
    unfold figs at hf
    rw [Bool.and_eq_true] at hf
    refine ⟨_, (pss_cons (ps_set (i := 1) nd rfl (Or.inl rfl) pe_int)
      (pss_cons (ps_for PassesOwn.never rfl (pi_str (pv 0)) (pg_name (i := 2) nd rfl (Or.inl rfl))
      (pss_one (ps_set (i := 1) nd rfl (Or.inl rfl) (pe_op op_add (pe_op op_mul (pv 1) pe_int) (pe_bm PySem.F.plainAttrs_str PySem.F.slot_str_index PySem.F.type_str_index mt_index (pe_glob rfl g_FG (v := .str "0123456789") ⟨_, rfl⟩) (pa_cons (pv 2) pa_nil))))))
      (pss_one (ps_ret (pv 1))))), ?_⟩
    refine ⟨_, rfl, x, rfl, hf.1, ?_⟩
    refine for_str (fun i σ H2 => ∃ v, σ = [some (.str x), some (.int ((x.cps.toList.take i).foldl numStep 0)), v] ∧ H2 = H) ⟨none, rfl, rfl⟩ ?_ ?_
    · rintro i c σ H2 hc ⟨v, rfl, rfl⟩
      have hc' : x.cps.toList[i]? = some c := by rw [Array.getElem?_toList]; exact hc
      have hm := List.all_eq_true.mp hf.2 c (List.mem_of_getElem? hc')
      cases eo : occ c with
      | nil => rw [eo] at hm; cases hm
      | cons j r =>
        refine ⟨_, rfl, _, _, rfl, rfl, .inr ⟨by decide, by decide⟩, rfl, _, rfl, "0123456789", ⟨#[c]⟩, j, r, rfl, rfl, eo, _, _, rfl, rfl, ?_⟩
        refine ⟨some (.str ⟨#[c]⟩), ?_, rfl⟩
        have : (x.cps.toList.take (i + 1)).foldl numStep 0 = numStep ((x.cps.toList.take i).foldl numStep 0) c := by rw [take_next hc', List.foldl_append]; rfl
        rw [this]
        unfold numStep
        rw [eo]
        rfl
    · rintro σ H2 ⟨v, rfl, rfl⟩
      refine ⟨_, rfl, ?_⟩
      have e : x.cps.toList.take x.cps.size = x.cps.toList := by rw [← Array.length_toList, List.take_length]
      rw [e]
      exact k
def spEnt (C : Addr) : Sp := fun vs H Q E => ∃ x : Str, vs = [.str x] ∧ fine x = true ∧ (∀ e, lineE x = some e → ∀ p H', H p = none → H' p = some (.tup (enV e)) → Kp [] H H' → Q (.ref p) H') ∧ (lineE x = none → ∀ H', Kp [] H H' → E (.ref C) none H')
theorem inW (x : Str) : inV (V.str x) (wd4.map V.str) = wd4.any fun y => decide (y = x) := by
  unfold wd4
  simp only [inV, List.map_cons, List.map_nil, List.any_cons, List.any_nil, eqV]
  have q : ∀ y : Str, (y == x) = decide (y = x) := fun y => by
    by_cases z : y = x
    · rw [z]; simp
    · rw [decide_eq_false z, beq_eq_false_iff_ne]; exact z
  rw [q, q, q, q]
theorem sc_Ent : FnScope ["line", "parts"] ["line"] (defScope sEnt) := ⟨rfl, rfl, rfl, by decide +kernel, rfl, by decide +kernel, by decide +kernel⟩
theorem ok_ent {f C_NoLine WD : Addr} {fd : FuncData} (Fn : Fun K "entry_of" "entry_of" sEnt f fd) (g_WD : mg "WORDS" = some (.ref WD)) (hW : tupIn K WD wd4 = true) (Dis_number : Df P w K mg base CX0 1 "is_number" ["text"] spIsN) (Dnumber_of : Df P w K mg base CX0 1 "number_of" ["figures"] spNum)
    (g_NoLine : mg "NoLine" = some (.ref C_NoLine)) (q_NoLine : PySem.W.excIn K C_NoLine [.type "ValueError", .type "Exception", .type "BaseException", .type "object"] "ValueError.__new__" = true) :
    FnOk P w K mg base (CX1 P w) 2 f fd ["line"] (spEnt C_NoLine) := by
  refine Fn.okX sc_Ent (fun vs H Q E h => ?_) (fun cdv A outer s H vs Q E hr h => ?_)
  · obtain ⟨x, rfl, _⟩ := h
    rfl
  · obtain ⟨x, rfl, hf, k1, k2⟩ := h
    have nd := sc_Ent.nd
    have fx := fnCx_of (CX := CX1 P w) (P := P) (w := w) (K := K) (mg := mg) (base := base) (N := ["line", "parts"]) (qual := "entry_of") (scope := defScope sEnt) (f := f) (cd := cdv) (A := A) (outer := outer) (s := s) (H := H) (E := E)
    have big : (1000 : Nat) ≤ sizeLine := by decide
    unfold fine at hf
    simp only [Bool.and_eq_true, decide_eq_true_eq] at hf
    obtain ⟨⟨h1, h2⟩, h3⟩ := hf
    unfold lineE at k1 k2
    refine ⟨_, (psxs_cons (psx_of (ps_set (i := 1) nd rfl (Or.inl rfl) (pe_bm PySem.F.plainAttrs_str PySem.F.slot_str_partition PySem.F.type_str_partition mt_partition (pv 0) (pa_cons pe_str pa_nil))))
      (psxs_cons (psx_if (PW.pt (pw_or (pt_cmpR op_notIn_seq (pe_ix ix_tup (pv 1) pe_int (fun _ _ => rfl)) (pe_glob rfl g_WD (v := .ref WD) rfl) (by with_unfolding_all rfl)) (pw_or1 (pt_not (pt_val (pe_fn Dis_number (hr.mono (by decide)) pass0 (pa_cons (pe_ix ix_tup (pv 1) pe_int (fun _ _ => rfl)) pa_nil)))))))
      (psxs_one (psx_raise fx rfl g_NoLine q_NoLine PySem.F.excBase_ValueError (pa_cons pe_str pa_nil)))
      (psxs_of pss_nil))
      (psxs_one (psx_of (ps_ret (pe_tup (pa_cons (pe_ix ix_tup (pv 1) pe_int (fun _ _ => rfl)) (pa_cons (pe_fn Dnumber_of (hr.mono (by decide)) pass0 (pa_cons (pe_ix ix_tup (pv 1) pe_int (fun _ _ => rfl)) pa_nil)) pa_nil)))))))), ?_⟩
    refine ⟨_, rfl, rfl, x, " ", rfl, rfl, by decide +kernel, by omega, fun p hp => ?_⟩
    generalize Txt.partition x " " = pt at h2 h3 k1 k2
    obtain ⟨a, b, c⟩ := pt
    dsimp only at h2 h3 k1 k2 ⊢
    have kp : Kp [] H (upd H p (.tup [.str a, .str b, .str c])) := Kp.new hp
    have hp1 : (upd H p (.tup [V.str a, V.str b, V.str c])) p = some (.tup [.str a, .str b, .str c]) := upd_same
    generalize upd H p (.tup [V.str a, V.str b, V.str c]) = H1 at kp hp1
    refine ⟨_, rfl, p, _, _, _, rfl, rfl, SqT.of hp1, atI_nat (j := 0) rfl, WD, _, rfl, .inr (tupIn.sq hW H1), rfl, rfl, _, rfl, ?_⟩
    rw [if_pos rfl, inW]
    cases ew : wd4.any fun y => decide (y = a) with
    | false =>
      refine iteT (iteT ?_)
      refine ⟨(by show 1 ≤ sizeLine; decide), ?_⟩
      exact k2 (by rw [ew]; rfl) _ kp
    | true =>
      refine iteF ⟨_, rfl, p, _, _, _, rfl, rfl, SqT.of hp1, atI_nat (j := 2) rfl, c, rfl, h2, _, rfl, ?_⟩
      cases ei : isNum c with
      | false =>
        refine iteT ?_
        refine ⟨(by show 1 ≤ sizeLine; decide), ?_⟩
        exact k2 (by rw [ew, ei]; rfl) _ kp
      | true =>
        refine iteF ?_
        rw [ei] at h3
        refine ⟨_, rfl, p, _, _, _, rfl, rfl, SqT.of hp1, atI_nat (j := 0) rfl, _, rfl, p, _, _, _, rfl, rfl, SqT.of hp1, atI_nat (j := 2) rfl, c, rfl, by simpa using h3, (by show 2 ≤ sizeLine; decide), fun q hq => ?_⟩
        refine k1 (a, numOf c) (by rw [ew, ei]; rfl) q _ (kp.free hq) upd_same (kp.trans (Kp.new hq))
end
end K12

end
section
set_option Elab.async false
set_option linter.all false
set_option maxRecDepth 100000
set_option maxHeartbeats 4000000
namespace K12
open PySem L2
def allE (xs : List Str) : Bool := xs.all fun x => (lineE x).isSome
def entE (xs : List Str) : List En := xs.filterMap lineE
theorem entE_len (xs : List Str) : (entE xs).length ≤ xs.length := List.length_filterMap_le _ _
theorem entE_snoc (xs : List Str) {x : Str} {e : En} (h : lineE x = some e) : entE (xs ++ [x]) = entE xs ++ [e] := by
  unfold entE
  rw [List.filterMap_append, List.filterMap_cons, h]; rfl
section
variable {P : Program} {w : World} {K : PySem.W.Frag} {mg : Str → Option Value} {base : Heap}
def Lns (H : Hp) (l : Addr) (xs : List Str) : Prop := H l = some (.lst (xs.map V.str)) ∧ xs.length ≤ 300 ∧ ∀ x ∈ xs, fine x = true
def spRead (CL CT : Addr) : Sp := fun vs H Q E => ∃ (m : Int) (l : Addr) (xs : List Str), vs = [.int m, .ref l] ∧ Lns H l xs ∧
  (allE xs = true → okT m (entE xs) = true → ∀ p as H', H p = none → TrAt H' p as (entE xs) → Kp [] H H' → Q (.ref p) H') ∧ (allE xs = true → okT m (entE xs) = false → ∀ H', Kp [] H H' → E (.ref CT) none H') ∧
  (allE xs = false → ∀ H', Kp [] H H' → E (.ref CL) none H')
theorem sc_Read : FnScope ["many", "lines", "trail"] ["many", "lines"] (defScope sRead) := ⟨rfl, rfl, rfl, by decide +kernel, rfl, by decide +kernel, by decide +kernel⟩
theorem ok_read {f CL CT : Addr} {fd : FuncData} (Fn : Fun K "read" "read" sRead f fd) (Dentry_of : Df P w K mg base (CX1 P w) 2 "entry_of" ["line"] (spEnt CL)) (Dcheck_trail : Df P w K mg base (CX1 P w) 4 "check_trail" ["many", "trail"] (spChk CT)) :
    FnOk P w K mg base (CX1 P w) 5 f fd ["many", "lines"] (spRead CL CT) := by
  refine Fn.okX sc_Read (fun vs H Q E h => ?_) (fun cdv A outer s H vs Q E hr h => ?_)
  · obtain ⟨m, l, xs, rfl, _⟩ := h
    rfl
  · obtain ⟨m, l, xs, rfl, ⟨hl, hz, hf⟩, k1, k2, k3⟩ := h
    have nd := sc_Read.nd
    have fx := fnCx_of (CX := CX1 P w) (P := P) (w := w) (K := K) (mg := mg) (base := base) (N := ["many", "lines", "trail"]) (qual := "read") (scope := defScope sRead) (f := f) (cd := cdv) (A := A) (outer := outer) (s := s) (H := H) (E := E)
    refine ⟨_, (psxs_cons (psx_setComp (i := 2) (NB := ["line"]) (ix := [none]) fx rfl nd rfl (Or.inl rfl) ⟨rfl, rfl, by decide +kernel, by decide +kernel, trivial, rfl, rfl, rfl, trivial⟩ (pi_list (pv 1)) (fun _ _ _ _ _ => (pg_name (i := 0) (show (["line"] : List Str).Nodup by decide +kernel) rfl (Or.inl rfl))) (fun _ _ _ _ _ => pcs_nil) (fun _ _ _ _ _ => (peb_fn Dentry_of (hr.mono (by decide)) (pa_cons (pv 0) pa_nil))))
      (psxs_cons (psx_expr (pex_fn fx Dcheck_trail (hr.mono (by decide)) (pa_cons (pv 0) (pa_cons (pv 2) pa_nil))))
      (psxs_one (psx_of (ps_ret (pv 2)))))), ?_⟩
    refine setcompX_var (a := l) (xs := xs.map V.str) rfl (SqL.of hl) fun D0 hD => ?_
    refine ⟨(fun i σ ys H2 => ∃ v0 : Option V, ∃ as, σ = [v0] ∧ ys = as.map V.ref ∧ (∀ x ∈ xs.take i, (lineE x).isSome = true) ∧ Ents H2 as (entE (xs.take i)) ∧ Kp [] H H2 ∧ H2 D0 = some (.lst ys)), ?_, ?_, ?_, ?_⟩
    · exact ⟨none, [], rfl, rfl, by simp, .nil _, Kp.new hD, upd_same⟩
    · rintro i σ ys H2 hi ⟨v0, as, rfl, ey, ha, he, kp, hy⟩
      exact ⟨SqL.of (kp.get hl (by simp)), hy⟩
    · rintro i v σ ys H2 hx ⟨v0, as, rfl, ey, ha, he, kp, hy⟩
      rw [List.getElem?_map] at hx
      cases ex : xs[i]? with
      | none => rw [ex] at hx; cases hx
      | some x =>
        rw [ex] at hx
        obtain rfl : V.str x = v := Option.some.inj hx
        have hi : i < xs.length := (List.getElem?_eq_some_iff.mp ex).1
        have hxm := List.mem_of_getElem? ex
        refine ⟨_, rfl, x, rfl, hf x hxm, fun e ee p H3 hp hp3 kp3 => ?_, fun en H3 kp3 => ?_⟩
        · have eS := entE_snoc (xs.take i) ee
          rw [← take_next ex] at eS
          have hy3 := kp3.get hy (by simp)
          have he3 := (he.same kp3).app (.one hp3)
          have kpf : Kp [D0] H3 (upd H3 D0 (.lst (ys ++ [V.ref p]))) := Kp.put (by simp)
          have nt : ∀ b ∈ [D0], ∀ e, H3 b ≠ some (.tup e) := fun b hb e z => by simp at hb; subst hb; rw [hy3] at z; cases z
          refine ⟨hy3, ?_, _, as ++ [p], rfl, ?_, ?_, ?_, ?_, upd_same⟩
          · rw [ey, List.length_map, he.len]
            exact Nat.lt_of_le_of_lt (Nat.le_trans (entE_len _) (by rw [List.length_take]; omega)) (show 300 < sizeLine by decide)
          · rw [ey, List.map_append]; rfl
          · intro y hy'
            rw [take_next ex] at hy'
            rcases List.mem_append.mp hy' with z | z
            · exact ha y z
            · rw [List.mem_singleton.mp z, ee]; rfl
          · rw [eS]
            exact he3.keep kpf nt
          · intro b o e hn
            rw [upd_ne (ne_of_none e hD)]
            exact (kp.trans kp3) b o e hn
        · refine k3 ?_ _ (kp.trans kp3)
          cases q : allE xs with
          | false => rfl
          | true =>
            have := List.all_eq_true.mp q x hxm
            rw [en] at this
            cases this
    · rintro σ ys H2 ⟨v0, as, rfl, ey, ha, he, kp, hy⟩
      rw [List.length_map, List.take_length] at ha he
      have ht : allE xs = true := List.all_eq_true.mpr ha
      subst ey
      have T : TrAt H2 D0 as (entE xs) := ⟨hy, he⟩
      have hzE : (entE xs).length ≤ 500 := Nat.le_trans (entE_len xs) (by omega)
      refine ⟨_, rfl, _, rfl, m, D0, as, _, rfl, T, hzE, fun ho H3 kp3 => ?_, fun ho H3 kp3 => k2 ht ho H3 (kp.trans kp3)⟩
      exact ⟨_, rfl, k1 ht ho D0 as H3 hD (T.same kp3) (kp.trans kp3)⟩
def toldW (m : Int) (xs : List Str) : Str := if allE xs = true then (if okT m (entE xs) = true then "read" else "no trail") else "no line"
def spTold : Sp := fun vs H Q _ => ∃ (m : Int) (l : Addr) (xs : List Str), vs = [.int m, .ref l] ∧ Lns H l xs ∧ ∀ H', Kp [] H H' → Q (.str (toldW m xs)) H'
theorem sc_Told : FnScope ["_law_many", "_law_lines", "_law_word"] ["_law_many", "_law_lines"] (defScope sTold) := ⟨rfl, rfl, rfl, by decide +kernel, rfl, by decide +kernel, by decide +kernel⟩
theorem ok_told {f CL CT : Addr} {fd : FuncData} (Fn : Fun K "_law_told" "_law_told" sTold f fd) (Dread : Df P w K mg base (CX1 P w) 5 "read" ["many", "lines"] (spRead CL CT)) (g_NoLine : mg "NoLine" = some (.ref CL)) (Z_NoLine : XCls K CL) (g_NoTrail : mg "NoTrail" = some (.ref CT)) (Z_NoTrail : XCls K CT)
    (m_L : PySem.W.mroIn K CL (.ref CL) = some true) (m_TL : PySem.W.mroIn K CT (.ref CL) = some false) (m_T : PySem.W.mroIn K CT (.ref CT) = some true) : FnOk P w K mg base (CX1 P w) 6 f fd ["_law_many", "_law_lines"] spTold := by
  refine Fn.okX sc_Told (fun vs H Q E h => ?_) (fun cdv A outer s H vs Q E hr h => ?_)
  · obtain ⟨m, l, xs, rfl, _⟩ := h
    rfl
  · obtain ⟨m, l, xs, rfl, L, k⟩ := h
    have nd := sc_Told.nd
    have fx := fnCx_of (CX := CX1 P w) (P := P) (w := w) (K := K) (mg := mg) (base := base) (N := ["_law_many", "_law_lines", "_law_word"]) (qual := "_law_told") (scope := defScope sTold) (f := f) (cd := cdv) (A := A) (outer := outer) (s := s) (H := H) (E := E)
    refine ⟨_, (psxs_cons (psx_of (ps_set (i := 2) nd rfl (Or.inl rfl) pe_str))
      (psxs_cons (psx_try fx (psxs_one (psx_expr (pex_fn fx Dread (hr.mono (by decide)) (pa_cons (pv 0) (pa_cons (pv 1) pa_nil)))))
      (phx_cons fx g_NoLine Z_NoLine (fun ea => (pss_one (ps_set (i := 2) nd rfl (Or.inl rfl) pe_str))) (phx_cons fx g_NoTrail Z_NoTrail (fun ea => (pss_one (ps_set (i := 2) nd rfl (Or.inl rfl) pe_str))) phx_nil)))
      (psxs_one (psx_of (ps_ret (pv 2)))))), ?_⟩
    refine ⟨_, rfl, _, rfl, m, l, xs, rfl, L, fun ha ho p as H1 _ _ kp1 => ?_, fun ha ho H1 kp1 => ?_, fun ha H1 kp1 => ?_⟩
    · refine ⟨_, rfl, ?_⟩
      have := k H1 kp1
      unfold toldW at this
      rw [if_pos ha, if_pos ho] at this
      exact this
    · refine ⟨CT, rfl, Z_NoTrail, false, m_TL, iteF ⟨Z_NoTrail, true, m_T, iteT fun _ => ⟨_, rfl, ?_⟩⟩⟩
      have := k H1 kp1
      unfold toldW at this
      rw [if_pos ha, if_neg (by rw [ho]; simp)] at this
      exact this
    · refine ⟨CL, rfl, Z_NoLine, true, m_L, iteT fun _ => ⟨_, rfl, ?_⟩⟩
      have := k H1 kp1
      unfold toldW at this
      rw [if_neg (by rw [ha]; simp)] at this
      exact this
def spUB : Sp := fun vs H Q _ => ∃ (m : Int) (l : Addr) (xs : List Str), vs = [.int m, .ref l] ∧ Lns H l xs ∧ allE xs = true ∧ okT m (entE xs) = false ∧ ∀ H', Kp [] H H' → Q (.bl true) H'
theorem sc_UB : FnScope ["_law_many", "_law_lines", "e", "_law_kinds"] ["_law_many", "_law_lines"] (defScope sUB) := ⟨rfl, rfl, rfl, by decide +kernel, rfl, by decide +kernel, by decide +kernel⟩
theorem ok_ub {f C_NoTrail C_TrailError C_NoDesk C_NoWork C_NoLine : Addr} {fd : FuncData} (Fn : Fun K "_law_under_base" "_law_under_base" sUB f fd) (B : Blt mg) (Dread : Df P w K mg base (CX1 P w) 5 "read" ["many", "lines"] (spRead C_NoLine C_NoTrail))
    (g_NoTrail : mg "NoTrail" = some (.ref C_NoTrail)) (Z_NoTrail : XCls K C_NoTrail) (g_TrailError : mg "TrailError" = some (.ref C_TrailError)) (Z_TrailError : XCls K C_TrailError) (g_NoDesk : mg "NoDesk" = some (.ref C_NoDesk)) (g_NoWork : mg "NoWork" = some (.ref C_NoWork)) (g_NoLine : mg "NoLine" = some (.ref C_NoLine))
    (m_base : PySem.W.mroIn K C_NoTrail (.ref C_TrailError) = some true) (i_D : PySem.W.kitOne K (.ref C_NoTrail) (.ref C_NoDesk) = some false) (i_W : PySem.W.kitOne K (.ref C_NoTrail) (.ref C_NoWork) = some false) (i_L : PySem.W.kitOne K (.ref C_NoTrail) (.ref C_NoLine) = some false)
    (i_V : PySem.W.kitOne K (.ref C_NoTrail) (.type "ValueError") = some true) : FnOk P w K mg base (CX1 P w) 6 f fd ["_law_many", "_law_lines"] spUB := by
  refine Fn.okX sc_UB (fun vs H Q E h => ?_) (fun cdv A outer s H vs Q E hr h => ?_)
  · obtain ⟨m, l, xs, rfl, _⟩ := h
    rfl
  · obtain ⟨m, l, xs, rfl, L, ha, ho, k⟩ := h
    have nd := sc_UB.nd
    have fx := fnCx_of (CX := CX1 P w) (P := P) (w := w) (K := K) (mg := mg) (base := base) (N := ["_law_many", "_law_lines", "e", "_law_kinds"]) (qual := "_law_under_base") (scope := defScope sUB) (f := f) (cd := cdv) (A := A) (outer := outer) (s := s) (H := H) (E := E)
    refine ⟨_, (psxs_cons (psx_try fx (psxs_one (psx_expr (pex_fn fx Dread (hr.mono (by decide)) (pa_cons (pv 0) (pa_cons (pv 1) pa_nil)))))
      (phx_as (i := 2) fx g_TrailError Z_TrailError nd rfl rfl (fun ea => (pss_cons (ps_set (i := 3) nd rfl (Or.inl rfl) (pe_lst (pa_cons (pe_callB call_isx rfl B.isinstance PyProof.Rows.boot_isinstance (pa_cons (pv 2) (pa_cons (pe_glob rfl g_NoDesk (v := .ref C_NoDesk) rfl) pa_nil))) (pa_cons (pe_callB call_isx rfl B.isinstance PyProof.Rows.boot_isinstance (pa_cons (pv 2) (pa_cons (pe_glob rfl g_NoWork (v := .ref C_NoWork) rfl) pa_nil))) (pa_cons (pe_callB call_isx rfl B.isinstance PyProof.Rows.boot_isinstance (pa_cons (pv 2) (pa_cons (pe_glob rfl g_NoTrail (v := .ref C_NoTrail) rfl) pa_nil))) pa_nil)))))
      (pss_cons (ps_set (i := 3) nd rfl (Or.inl rfl) (pe_op op_cat (pv 3) (pe_lst (pa_cons (pe_callB call_isx rfl B.isinstance PyProof.Rows.boot_isinstance (pa_cons (pv 2) (pa_cons (pe_glob rfl g_NoLine (v := .ref C_NoLine) rfl) pa_nil))) pa_nil))))
      (pss_one (ps_ret (pe_and (pe_callB call_isx rfl B.isinstance PyProof.Rows.boot_isinstance (pa_cons (pv 2) (pa_cons (pe_bltn rfl B.ValueError (show bootBuiltins "ValueError" = some (.type "ValueError") by decide +kernel) (v := .ty "ValueError") rfl) pa_nil))) (pe_one (pe_cmpR op_eq (pe_bm PySem.F.plainAttrs_list PySem.F.slot_list_count PySem.F.type_list_count mt_count (pv 3) (pa_cons pe_bl pa_nil)) pe_int (nomark _))))))))) phx_nil))
      (psxs_one (psx_of (ps_ret pe_bl)))), ?_⟩
    refine ⟨_, rfl, _, rfl, m, l, xs, rfl, L, fun _ h1 => absurd (ho.symm.trans h1) (by simp), fun _ _ H1 kp1 => ⟨C_NoTrail, rfl, Z_NoTrail, true, m_base, iteT fun ea hea => ?_⟩, fun h1 => absurd (ha.symm.trans h1) (by simp)⟩
    · have k := fun H2 (kp2 : Kp [] H1 H2) => k H2 (kp1.trans kp2)
      refine ⟨_, rfl, ea, C_NoTrail, _, false, rfl, .inl ⟨_, rfl⟩, upd_same, Z_NoTrail, i_D, ?_⟩
      refine ⟨_, rfl, ea, C_NoTrail, _, false, rfl, .inl ⟨_, rfl⟩, upd_same, Z_NoTrail, i_W, ?_⟩
      refine ⟨_, rfl, ea, C_NoTrail, _, true, rfl, .inl ⟨_, rfl⟩, upd_same, Z_NoTrail, isx_self, (by show 3 ≤ sizeLine; decide), fun l1 hl1 => ?_⟩
      have kp2 : Kp [] H1 (upd H1 ea (XO C_NoTrail ea)) := Kp.new hea
      generalize hH2 : upd H1 ea (XO C_NoTrail ea) = H2 at kp2 hl1
      have hx2 : H2 ea = some (XO C_NoTrail ea) := by rw [← hH2]; exact upd_same
      have kp3 : Kp [] H2 (upd H2 l1 (.lst [.bl false, .bl false, .bl true])) := Kp.new hl1
      have hl3 : (upd H2 l1 (.lst [V.bl false, V.bl false, V.bl true])) l1 = some (.lst [.bl false, .bl false, .bl true]) := upd_same
      have hx3 := kp3.get hx2 (by simp)
      generalize hH3 : upd H2 l1 (.lst [V.bl false, V.bl false, V.bl true]) = H3 at kp3 hl3 hx3
      refine ⟨_, rfl, _, rfl, ea, C_NoTrail, _, false, rfl, .inl ⟨_, rfl⟩, hx3, Z_NoTrail, i_L, (by show 1 ≤ sizeLine; decide), fun l2 hl2 => ?_⟩
      have kp4 : Kp [] H3 (upd H3 l2 (.lst [.bl false])) := Kp.new hl2
      refine ⟨l1, l2, _, _, rfl, rfl, kp4.get hl3 (by simp), upd_same, (by show 4 ≤ sizeLine; decide), fun l4 hl4 => ?_⟩
      have hx4 := kp4.get hx3 (by simp)
      generalize hH4 : upd H3 l2 (.lst [V.bl false]) = H4 at kp4 hx4 hl4
      have kp5 : Kp [] H4 (upd H4 l4 (.lst ([.bl false, .bl false, .bl true] ++ [.bl false]))) := Kp.new hl4
      refine ⟨_, rfl, ea, C_NoTrail, _, true, rfl, .inr ⟨_, rfl⟩, kp5.get hx4 (by simp), Z_NoTrail, i_V, _, rfl, iteT ?_⟩
      refine ⟨_, rfl, .inl ⟨rfl, _, SqL.of upd_same⟩, l4, _, _, rfl, rfl, SqL.of upd_same, rfl, rfl, rfl, ?_⟩
      exact k _ (((kp2.trans kp3).trans kp4).trans kp5)
/-! ### the lines of a trail that the law makes -/
structure Fits (m : Int) (t : List En) : Prop where
  w : ∀ e ∈ t, e.1 = "did" ∨ e.1 = "no" ∨ e.1 = "unsure" ∨ e.1 = "undid"
  n : ∀ e ∈ t, 0 ≤ e.2 ∧ e.2 < m
def lineOk (y : Str) (n : Nat) : Bool := decide (lineE (y ++ (" " : Str) ++ Str.ofString (toString (n : Int))) = some (y, (n : Int))) && fine (y ++ (" " : Str) ++ Str.ofString (toString (n : Int)))
theorem lines_ok : (["did", "no", "unsure", "undid"] : List Str).all (fun y => (List.range 42).all fun n => lineOk y n) = true := by decide +kernel
theorem line_ok {e : En} (hw : e.1 = "did" ∨ e.1 = "no" ∨ e.1 = "unsure" ∨ e.1 = "undid") (hn : 0 ≤ e.2 ∧ e.2 ≤ 41) : lineE (lineOf e) = some e ∧ fine (lineOf e) = true := by
  obtain ⟨y, i⟩ := e
  obtain ⟨n, rfl⟩ : ∃ n : Nat, i = (n : Int) := ⟨i.toNat, by have := hn.1; dsimp only at this ⊢; omega⟩
  have h1 := List.all_eq_true.mp lines_ok y (by dsimp only at hw; rcases hw with z | z | z | z <;> rw [z] <;> simp)
  have h2 := List.all_eq_true.mp h1 n (List.mem_range.mpr (by have := hn.2; dsimp only at this; omega))
  unfold lineOk at h2
  rw [Bool.and_eq_true, decide_eq_true_eq] at h2
  exact h2
theorem Fits.lines {m : Int} (hm : m ≤ 41) {t : List En} (F : Fits m t) : (∀ x ∈ t.map lineOf, fine x = true) ∧ allE (t.map lineOf) = true ∧ entE (t.map lineOf) = t := by
  obtain ⟨w, n⟩ := F
  induction t with
  | nil => exact ⟨by simp, rfl, rfl⟩
  | cons e t ih =>
    obtain ⟨i1, i2, i3⟩ := ih (fun x hx => w x (.tail _ hx)) (fun x hx => n x (.tail _ hx))
    have hn := n e (.head _)
    obtain ⟨l1, l2⟩ := line_ok (w e (.head _)) ⟨hn.1, by omega⟩
    refine ⟨fun x hx => ?_, ?_, ?_⟩
    · rw [List.map_cons] at hx
      rcases List.mem_cons.mp hx with z | z
      · rw [z]; exact l2
      · exact i1 x z
    · unfold allE at i2 ⊢
      rw [List.map_cons, List.all_cons, l1, i2]; rfl
    · unfold entE at i3 ⊢
      rw [List.map_cons, List.filterMap_cons, l1, i3]
theorem back_lt {m : Int} : ∀ (t : List En) (o : Option Int), (∀ e ∈ t, e.2 < m) → (∀ c, o = some c → c < m) → ∀ c, t.foldl backF o = some c → c < m
  | [], o, _, ho, c, h => ho c h
  | e :: t, o, hn, ho, c, h => by
    refine back_lt t (backF o e) (fun x hx => hn x (.tail _ hx)) (fun d hd => ?_) c h
    have he := hn e (.head _)
    unfold backF at hd
    split at hd
    · cases hd; omega
    · split at hd
      · cases hd; omega
      · split at hd
        · cases hd; omega
        · exact ho d hd
/-- what comes next is a step of the work -/
theorem next_in {m : Int} {t : List En} (hm : 0 ≤ m) (G : Good m t) (F : Fits m t) {s : Int} (h : lawNx m t = .dO s ∨ lawNx m t = .un s) : 0 ≤ s ∧ s < m := by
  have R := rel_all hm t.length (Nat.le_refl _) G.ok
  rw [List.take_length] at R
  unfold lawNx at h
  split at h
  · rename_i hb
    split at h
    · rcases h with h | h <;> cases h
    · rcases h with h | h
      · cases h
        rcases R with ⟨_, hl, _⟩ | ⟨b, hb', _⟩
        · omega
        · rw [hb] at hb'; cases hb'
      · cases h
  · rename_i b hb
    split at h
    · rcases h with h | h <;> cases h
    · rcases h with h | h
      · cases h
      · cases h
        exact ⟨by omega, back_lt t none (fun e he => (F.n e he).2) (fun c z => nomatch z) _ hb⟩
theorem fits_step {m : Int} {t : List En} (hm : 0 ≤ m) (G : Good m t) (F : Fits m t) (c : Int) : Fits m (trailStep m t c) := by
  have add : ∀ {y : Str} {s : Int}, (y = "did" ∨ y = "no" ∨ y = "unsure" ∨ y = "undid") → 0 ≤ s ∧ s < m → Fits m (t ++ [(y, s)]) := fun {y s} hy h0 => by
    refine ⟨fun e he => ?_, fun e he => ?_⟩ <;> rcases List.mem_append.mp he with z | z
    · exact F.w e z
    · rw [List.mem_singleton.mp z]; exact hy
    · exact F.n e z
    · rw [List.mem_singleton.mp z]; exact h0
  unfold trailStep
  cases e : lawNx m t with
  | un s => exact add (by simp) (next_in hm G F (.inr e))
  | dO s =>
    have hp := emod_pick (c * 48271) 1009 7 (by decide) (by decide)
    have hs := said_mem _ (show (c * 48271 % 1009 % 7).toNat < 7 by omega)
    refine add ?_ (next_in hm G F (.inl e))
    rcases hs with z | z | z
    · exact .inl z
    · exact .inr (.inl z)
    · exact .inr (.inr (.inl z))
  | dn => exact F
  | ud => exact F
theorem fits_trail {m : Int} (hm : 0 ≤ m) (cs : List Int) : Fits m (trailOf m cs) := by
  unfold trailOf
  have : ∀ (cs : List Int) (t : List En), Good m t → Fits m t → Fits m (cs.foldl (trailStep m) t) := by
    intro cs
    induction cs with
    | nil => exact fun t _ h => h
    | cons c cs ih => exact fun t G h => ih _ (good_step hm G c) (fits_step hm G h c)
  exact this cs [] ⟨fun j hj => absurd hj (Nat.not_lt_zero j)⟩ ⟨by simp, by simp⟩
theorem cant {m : Int} {t : List En} {e : En} (hm : 0 ≤ m) (G : Good m t) (F : Fits m t) (h : m ≤ e.2) : okT m (t ++ [e]) = false := by
  refine okT_false (k := t.length) (by simp) ?_
  unfold okAt
  rw [List.getElem?_append_right (Nat.le_refl _), Nat.sub_self]
  show stands e (nxOf m ((t ++ [e]).take t.length)) = false
  rw [List.take_append_of_le_length (Nat.le_refl _), List.take_length, G.nx hm]
  cases q : lawNx m t with
  | dO s =>
    have := next_in hm G F (.inl q)
    unfold stands
    rw [decide_eq_false_iff_not]
    exact fun z => by omega
  | un s =>
    have := next_in hm G F (.inr q)
    unfold stands
    rw [decide_eq_false_iff_not]
    exact fun z => by omega
  | dn => rfl
  | ud => rfl
end
end K12

end
section
set_option Elab.async false
set_option linter.all false
set_option maxRecDepth 100000
set_option maxHeartbeats 4000000
namespace K12
open PySem L2
def bads : List Str := ["", "did", "did ", " did 0", "did  0", "Did 0", "done 0", "did 00", "did -1", "did +1", "did 0 ", "did x", "did 0 0", "0 did", "did0", "unsure 01", "undid -0"]
theorem bads_ok : bads.all (fun x => decide (lineE x = none) && fine x) = true := by decide +kernel
theorem bad_of {x : Str} (h : x ∈ bads) : lineE x = none ∧ fine x = true := by
  have := List.all_eq_true.mp bads_ok x h
  rw [Bool.and_eq_true, decide_eq_true_eq] at this
  exact this
theorem big_ok : lineE "no 1000000000000000000000" = some (("no" : Str), (1000000000000000000000 : Int)) ∧ fine "no 1000000000000000000000" = true := by decide +kernel
theorem first_ok : fine "did 999999" = true := by decide +kernel
theorem told_bad {m : Int} {xs ys : List Str} {x : Str} (h : x ∈ bads) : toldW m (xs ++ [x] ++ ys) = "no line" := by
  unfold toldW
  rw [if_neg]
  intro z
  have := List.all_eq_true.mp z x (by simp)
  rw [(bad_of h).1] at this
  cases this
theorem cutS_hi (xs : List Str) (k : Nat) : cutV (xs.map V.str) none (some (k : Int)) = (xs.take k).map V.str := by
  unfold cutV
  rw [HT.sIx_none, HT.sIx_nat, List.length_map, List.drop_zero, Nat.sub_zero, ← List.map_take]
  congr 1
  by_cases h : k ≤ xs.length
  · rw [Nat.min_eq_left h]
  · rw [Nat.min_eq_right (by omega), List.take_length, List.take_of_length_le (by omega)]
theorem cut_2 (ns : List Int) : cutV (ns.map V.int) (some 2) (some 150) = ((ns.drop 2).take 148).map V.int := by
  have h2 : HT.sIx (ns.map V.int).length 0 (some 2) = min 2 (ns.map V.int).length := HT.sIx_nat ..
  have h150 : HT.sIx (ns.map V.int).length (ns.map V.int).length (some 150) = min 150 (ns.map V.int).length := HT.sIx_nat ..
  unfold cutV
  rw [h2, h150, List.length_map, ← List.map_drop, ← List.map_take]
  congr 1
  by_cases h : 2 ≤ ns.length
  · rw [Nat.min_eq_left h]
    by_cases h' : 150 ≤ ns.length
    · rw [Nat.min_eq_left h']
    · rw [Nat.min_eq_right (by omega), List.take_of_length_le (by rw [List.length_drop]; omega), List.take_of_length_le (by rw [List.length_drop]; omega)]
  · rw [show min 2 ns.length = ns.length from Nat.min_eq_right (by omega), List.drop_length, List.drop_of_length_le (show ns.length ≤ 2 by omega)]; simp
theorem small_log2 {i : Int} (h0 : 0 ≤ i) (h1 : i ≤ 500) : i.natAbs.log2 < 1920 := by
  obtain ⟨n, rfl⟩ : ∃ n : Nat, i = (n : Int) := ⟨i.toNat, by omega⟩
  exact small_log (by omega)
theorem Fits.len {m : Int} {t : List En} (hm : m ≤ 41) (F : Fits m t) : ∀ e ∈ t, e.1.length ≤ 1000 ∧ e.2.natAbs.log2 < 1920 := fun e he => by
  refine ⟨?_, small_log2 (F.n e he).1 (by have := (F.n e he).2; omega)⟩
  rcases F.w e he with z | z | z | z <;> (rw [z]; decide +kernel)
section
variable {P : Program} {w : World} {K : PySem.W.Frag} {mg : Str → Option Value} {base : Heap}
def spReadG : Sp := fun vs H Q _ => ∃ (m : Int) (l : Addr) (xs : List Str), vs = [.int m, .ref l] ∧ Lns H l xs ∧ allE xs = true ∧ okT m (entE xs) = true ∧ ∀ p as H', H p = none → TrAt H' p as (entE xs) → Kp [] H H' → Q (.ref p) H'
theorem calm_read {CL CT f : Addr} {fd : FuncData} {k : Nat} {ps : List Str} (F : FnOk P w K mg base (CX1 P w) k f fd ps (spRead CL CT)) : FnOk P w K mg base CX0 k f fd ps spReadG :=
  F.calm fun vs H Q E ⟨m, l, xs, e, L, ha, ho, k⟩ => ⟨m, l, xs, e, L, fun _ _ => k, fun _ h => absurd (ho.symm.trans h) (by simp), fun h => absurd (ha.symm.trans h) (by simp)⟩
theorem calm_told {f : Addr} {fd : FuncData} {k : Nat} {ps : List Str} (F : FnOk P w K mg base (CX1 P w) k f fd ps spTold) : FnOk P w K mg base CX0 k f fd ps spTold := F.calm fun vs H Q E h => h
theorem calm_ub {f : Addr} {fd : FuncData} {k : Nat} {ps : List Str} (F : FnOk P w K mg base (CX1 P w) k f fd ps spUB) : FnOk P w K mg base CX0 k f fd ps spUB := F.calm fun vs H Q E h => h
def spLaw (K : PySem.W.Frag) : Sp := fun vs H Q _ => ∃ (a : Addr) (ns : List Int), vs = [.ref a] ∧ Scr K H a ns ∧ ns.length ≤ 63 ∧ ∀ H', Q (.bl true) H'
theorem sc_Law : FnScope ["_law_script", "_law_many", "_law_trail", "_law_lines", "_law_found", "_law_k", "_law_back", "_law_bad", "_law_spot", "_law_text", "_law_wrong"] ["_law_script"] (defScope sLaw) := ⟨rfl, rfl, rfl, by decide +kernel, rfl, by decide +kernel, by decide +kernel⟩
theorem ok_law {f : Addr} {fd : FuncData} (Fn : Fun K "law" "law" sLaw f fd) (B : Blt mg) (Dlaw_at : Df P w K mg base CX0 1 "_law_at" ["_law_script", "_law_k"] (spAt K)) (Dlaw_trail_of : Df P w K mg base CX0 2 "_law_trail_of" ["_law_many", "_law_cells"] (spTOf K))
    (Dlaw_so : Df P w K mg base CX0 2 "_law_so" ["_law_found", "_law_meant"] spSo) (Dlaw_whole : Df P w K mg base CX0 1 "_law_whole" ["_law_found"] spWhole) (Dshown : Df P w K mg base CX0 1 "shown" ["trail"] spShown)
    (Dread : Df P w K mg base CX0 5 "read" ["many", "lines"] spReadG) (Dlaw_told : Df P w K mg base CX0 6 "_law_told" ["_law_many", "_law_lines"] spTold) (Dlaw_under_base : Df P w K mg base CX0 6 "_law_under_base" ["_law_many", "_law_lines"] spUB) : FnOk P w K mg base CX0 7 f fd ["_law_script"] (spLaw K) := by
  refine Fn.ok sc_Law (fun vs H Q E h => ?_) (fun cdv A outer s H vs Q E hr h => ?_)
  · obtain ⟨a, ns, rfl, _⟩ := h
    rfl
  · obtain ⟨a, ns, rfl, hS, hn, k⟩ := h
    have nd := sc_Law.nd
    have hu := hu_of hr
    have hu64 := hr.units
    have big : (500 : Nat) ≤ sizeLine := by decide
    refine ⟨_, (pss_cons (ps_set (i := 1) nd rfl (Or.inl rfl) (pe_op op_mod (pe_op op_mod (pe_op op_mul (pe_fn Dlaw_at (hr.mono (by decide)) pass0 (pa_cons (pv 0) (pa_cons pe_int pa_nil))) pe_int) pe_int) pe_int))
      (pss_cons (ps_set (i := 2) nd rfl (Or.inl rfl) (pe_fn Dlaw_trail_of (hr.mono (by decide)) pass0 (pa_cons (pv 1) (pa_cons (pe_slice sl_list (pv 0) (po_some pe_int) (po_some pe_int)) pa_nil))))
      (pss_cons (ps_setComp (i := 3) (NB := ["_law_entry"]) (ix := [none]) rfl nd rfl (Or.inl rfl) ⟨rfl, rfl, by decide +kernel, by decide +kernel, trivial, rfl, rfl, rfl, trivial⟩ (pi_list (pv 2)) (fun _ _ _ _ _ => (pg_name (i := 0) (show (["_law_entry"] : List Str).Nodup by decide +kernel) rfl (Or.inl rfl))) (fun _ _ _ _ _ => pcs_nil) (fun _ _ _ _ _ => (pe_op op_add_str (pe_op op_add_str (pe_ix (ix_tupK (K := K) rfl) (pv 0) pe_int (fun _ _ => rfl)) pe_str) (pe_callTy call_str_int rfl B.str PyProof.Rows.boot_str (pa_cons (pe_ix (ix_tupK (K := K) rfl) (pv 0) pe_int (fun _ _ => rfl)) pa_nil)))))
      (pss_cons (ps_set (i := 4) nd rfl (Or.inl rfl) (pe_fn Dshown (hr.mono (by decide)) pass0 (pa_cons (pe_callTy call_list_of rfl B.list_ PyProof.Rows.boot_list (pa_cons (pv 2) pa_nil)) pa_nil)))
      (pss_cons (ps_if (PW.pt (pw_or (pt_not (pt_val (pe_callB call_isi rfl B.isinstance PyProof.Rows.boot_isinstance (pa_cons (pv 4) (pa_cons (pe_bltn rfl B.list_ PyProof.Rows.boot_list (v := .ty "list") rfl) pa_nil))))) (pw_or1 (pt_cmpR op_ne (pe_callB call_len_seq rfl B.len PySem.boot_len (pa_cons (pv 4) pa_nil)) (pe_callB call_len_seq rfl B.len PySem.boot_len (pa_cons (pv 3) pa_nil)) (nomark _)))))
      (pss_one (ps_ret pe_bl))
      pss_nil)
      (pss_cons (ps_for PassesOwn.never rfl (pi_range1 rfl B.range (pa_cons (pe_callB call_len_seq rfl B.len PySem.boot_len (pa_cons (pv 3) pa_nil)) pa_nil)) (pg_name (i := 5) nd rfl (Or.inl rfl))
      (pss_one (ps_if (PW.pt (pw_or (pt_not (pt_val (pe_callB call_isi rfl B.isinstance PyProof.Rows.boot_isinstance (pa_cons (pe_ix ix_list (pv 4) (pv 5) (fun _ _ => rfl)) (pa_cons (pe_bltn rfl B.str PyProof.Rows.boot_str (v := .ty "str") rfl) pa_nil))))) (pw_or1 (pt_cmpR op_ne (pe_ix ix_list (pv 4) (pv 5) (fun _ _ => rfl)) (pe_ix ix_list (pv 3) (pv 5) (fun _ _ => rfl)) (nomark _)))))
      (pss_one (ps_ret pe_bl))
      pss_nil)))
      (pss_cons (ps_set (i := 6) nd rfl (Or.inl rfl) (pe_fn Dread (hr.mono (by decide)) pass0 (pa_cons (pv 1) (pa_cons (pe_callTy call_list_of rfl B.list_ PyProof.Rows.boot_list (pa_cons (pv 3) pa_nil)) pa_nil))))
      (pss_cons (ps_if (PW.pt (pw_or (pt_not (pt_val (pe_callB call_isi rfl B.isinstance PyProof.Rows.boot_isinstance (pa_cons (pv 6) (pa_cons (pe_bltn rfl B.list_ PyProof.Rows.boot_list (v := .ty "list") rfl) pa_nil))))) (pw_or1 (pt_cmpR op_ne (pe_callB call_len_seq rfl B.len PySem.boot_len (pa_cons (pv 6) pa_nil)) (pe_callB call_len_seq rfl B.len PySem.boot_len (pa_cons (pv 2) pa_nil)) (nomark _)))))
      (pss_one (ps_ret pe_bl))
      pss_nil)
      (pss_cons (ps_for PassesOwn.never rfl (pi_range1 rfl B.range (pa_cons (pe_callB call_len_seq rfl B.len PySem.boot_len (pa_cons (pv 2) pa_nil)) pa_nil)) (pg_name (i := 5) nd rfl (Or.inl rfl))
      (pss_cons (ps_if (PW.pt (pw_or (pt_not (pt_val (pe_callB call_isi rfl B.isinstance PyProof.Rows.boot_isinstance (pa_cons (pe_ix ix_list (pv 6) (pv 5) (fun _ _ => rfl)) (pa_cons (pe_bltn rfl B.tuple PyProof.Rows.boot_tuple (v := .ty "tuple") rfl) pa_nil))))) (pw_or1 (pt_cmpR op_ne (pe_callB call_len_seq rfl B.len PySem.boot_len (pa_cons (pe_ix ix_list (pv 6) (pv 5) (fun _ _ => rfl)) pa_nil)) pe_int (nomark _)))))
      (pss_one (ps_ret pe_bl))
      pss_nil)
      (pss_cons (ps_if (PW.pt (pw_or (pt_not (pt_val (pe_callB call_isi rfl B.isinstance PyProof.Rows.boot_isinstance (pa_cons (pe_ix ix_tup (pe_ix ix_list (pv 6) (pv 5) (fun _ _ => rfl)) pe_int (fun _ _ => rfl)) (pa_cons (pe_bltn rfl B.str PyProof.Rows.boot_str (v := .ty "str") rfl) pa_nil))))) (pw_or1 (pt_not (pt_val (pe_fn Dlaw_whole (hr.mono (by decide)) pass0 (pa_cons (pe_ix ix_tup (pe_ix ix_list (pv 6) (pv 5) (fun _ _ => rfl)) pe_int (fun _ _ => rfl)) pa_nil)))))))
      (pss_one (ps_ret pe_bl))
      pss_nil)
      (pss_one (ps_if (pt_not (pt_val (pe_fn Dlaw_so (hr.mono (by decide)) pass0 (pa_cons (pe_ix ix_list (pv 6) (pv 5) (fun _ _ => rfl)) (pa_cons (pe_ix ix_list (pv 2) (pv 5) (fun _ _ => rfl)) pa_nil)))))
      (pss_one (ps_ret pe_bl))
      pss_nil)))))
      (pss_cons (ps_set (i := 7) nd rfl (Or.inl rfl) (pe_lst (pa_cons pe_str (pa_cons pe_str (pa_cons pe_str (pa_cons pe_str (pa_cons pe_str (pa_cons pe_str (pa_cons pe_str (pa_cons pe_str (pa_cons pe_str (pa_cons pe_str pa_nil))))))))))))
      (pss_cons (ps_set (i := 7) nd rfl (Or.inl rfl) (pe_op op_cat (pv 7) (pe_lst (pa_cons pe_str (pa_cons pe_str (pa_cons pe_str (pa_cons pe_str (pa_cons pe_str (pa_cons pe_str (pa_cons pe_str pa_nil))))))))))
      (pss_cons (ps_set (i := 8) nd rfl (Or.inl rfl) (pe_op op_mod (pe_op op_mod (pe_op op_mul (pe_fn Dlaw_at (hr.mono (by decide)) pass0 (pa_cons (pv 0) (pa_cons pe_int pa_nil))) pe_int) pe_int) (pe_op op_add (pe_callB call_len_seq rfl B.len PySem.boot_len (pa_cons (pv 3) pa_nil)) pe_int)))
      (pss_cons (ps_for PassesOwn.never rfl (pi_list (pv 7)) (pg_name (i := 9) nd rfl (Or.inl rfl))
      (pss_one (ps_if (pt_cmpR op_ne (pe_fn Dlaw_told (hr.mono (by decide)) pass0 (pa_cons (pv 1) (pa_cons (pe_op op_cat (pe_op op_cat (pe_slice sl_list (pv 3) po_none (po_some (pv 8))) (pe_lst (pa_cons (pv 9) pa_nil))) (pe_slice sl_list (pv 3) (po_some (pv 8)) po_none)) pa_nil))) pe_str (nomark _))
      (pss_one (ps_ret pe_bl))
      pss_nil)))
      (pss_cons (ps_set (i := 10) nd rfl (Or.inl rfl) (pe_lst (pa_cons (pe_op op_add_str pe_str (pe_callTy call_str_int rfl B.str PyProof.Rows.boot_str (pa_cons (pe_op op_add (pv 1) pe_int) pa_nil))) (pa_cons (pe_op op_add_str pe_str (pe_callTy call_str_int rfl B.str PyProof.Rows.boot_str (pa_cons (pv 1) pa_nil))) (pa_cons pe_str pa_nil)))))
      (pss_cons (ps_for PassesOwn.never rfl (pi_list (pv 10)) (pg_name (i := 9) nd rfl (Or.inl rfl))
      (pss_cons (ps_if (pt_cmpR op_ne (pe_fn Dlaw_told (hr.mono (by decide)) pass0 (pa_cons (pv 1) (pa_cons (pe_op op_cat (pv 3) (pe_lst (pa_cons (pv 9) pa_nil))) pa_nil))) pe_str (nomark _))
      (pss_one (ps_ret pe_bl))
      pss_nil)
      (pss_one (ps_if (pt_not (pt_val (pe_fn Dlaw_under_base (hr.mono (by decide)) pass0 (pa_cons (pv 1) (pa_cons (pe_op op_cat (pv 3) (pe_lst (pa_cons (pv 9) pa_nil))) pa_nil)))))
      (pss_one (ps_ret pe_bl))
      pss_nil))))
      (pss_one (ps_ret (pe_cmpR op_eq (pe_fn Dlaw_told (hr.mono (by decide)) pass0 (pa_cons (pv 1) (pa_cons (pe_op op_cat (pe_op op_cat (pe_lst (pa_cons pe_str pa_nil)) (pv 3)) (pe_lst (pa_cons (pe_ix ix_list (pv 7) (pe_op op_mod (pv 8) pe_int) (fun _ _ => rfl)) pa_nil))) pa_nil))) pe_str (nomark _))))))))))))))))))), ?_⟩
    -- many
    refine ⟨_, rfl, a, ns, 0, rfl, hS.sq, _, _, rfl, rfl, .inr ⟨by decide, by decide⟩, _, _, rfl, rfl, (by show (0 : Int) < _; decide), _, _, rfl, rfl, (by show (0 : Int) < _; decide), ?_⟩
    refine gsetI fun m hmm => ?_
    have hm0 : 0 ≤ m := by rw [hmm]; exact (emod_pick _ 1013 40 (by decide) (by decide)).1
    have hm1 : m < 40 := by rw [hmm]; exact (emod_pick _ 1013 40 (by decide) (by decide)).2
    clear hmm
    -- trail
    refine ⟨_, rfl, _, rfl, _, rfl, _, rfl, a, _, rfl, hS.sq, fun p1 hp1 => ?_⟩
    rw [cut_2]
    have kp1 : Kp [] H (upd H p1 (.lst (((ns.drop 2).take 148).map V.int))) := Kp.new hp1
    refine ⟨m, p1, _, rfl, SqL.of upd_same, by rw [List.length_take, List.length_drop]; omega, fun l as H2 hl0 T2 kp2 => ?_⟩
    have G := good_trail hm0 ((ns.drop 2).take 148)
    have F := fits_trail hm0 ((ns.drop 2).take 148)
    have hz : (trailOf m ((ns.drop 2).take 148)).length ≤ 100 := Nat.le_trans (trail_len _ _) (by rw [List.length_take, List.length_drop]; omega)
    have S2 := hS.same (kp1.trans kp2)
    generalize trailOf m ((ns.drop 2).take 148) = tr at T2 G F hz
    obtain ⟨fl1, fl2, fl3⟩ := F.lines (by omega)
    have fll := F.len (by omega)
    have hzL : (tr.map lineOf).length ≤ 100 := by rw [List.length_map]; exact hz
    -- lines
    refine setcomp_var (a := l) (xs := as.map V.ref) rfl (SqL.of T2.ls) fun D0 hD => ⟨fun i σ ys H3 => ∃ v0 : Option V, σ = [v0] ∧ ys = ((tr.take i).map lineOf).map V.str ∧ Kp [] H2 H3 ∧ H3 D0 = some (.lst ys), ?_, ?_, ?_, ?_⟩
    · exact ⟨none, rfl, rfl, Kp.new hD, upd_same⟩
    · rintro i σ ys H3 hi ⟨v0, rfl, ey, kp3, hy⟩
      exact ⟨SqL.of (kp3.get T2.ls (by simp)), hy⟩
    · rintro i x σ ys H3 hx ⟨v0, rfl, ey, kp3, hy⟩
      rw [List.getElem?_map] at hx
      cases ea : as[i]? with
      | none => rw [ea] at hx; cases hx
      | some b =>
        rw [ea] at hx
        obtain rfl : V.ref b = x := Option.some.inj hx
        have T3 := T2.same kp3
        obtain ⟨⟨y, n⟩, et, hb⟩ := T3.en.get ea
        have hm := fll (y, n) (List.mem_of_getElem? et)
        have hi : i < tr.length := (List.getElem?_eq_some_iff.mp et).1
        have ln : (Str.ofString (toString n)).length ≤ 1921 := by
          rw [PySem.ofString_length]
          exact int_text_length_le (by decide) hm.2
        have ly : (y ++ (" " : Str)).length = y.length + 1 := strLen_append _ _
        have big5 : (5000 : Nat) ≤ sizeLine := by decide
        have hy1 : y.length ≤ 1000 := hm.1
        refine ⟨_, rfl, b, _, _, _, rfl, rfl, SqT.of hb, atI_nat (j := 0) rfl, _, _, rfl, rfl, (by show y.length + 1 ≤ _; omega), _, rfl, b, _, _, _, rfl, rfl, SqT.of hb, atI_nat (j := 1) rfl, _, rfl, hm.2, _, _, rfl, rfl, ?_, hy, ?_, _, rfl, ?_, ?_, upd_same⟩
        · show (y ++ (" " : Str)).length + (Str.ofString (toString n)).length ≤ _
          rw [ly]; omega
        · rw [ey, List.length_map, List.length_map, List.length_take]; omega
        · rw [take_next et, List.map_append, List.map_append, ey]; rfl
        · intro c o e hn
          rw [upd_ne (ne_of_none e hD)]
          exact kp3 c o e hn
    rintro σ ys H3 ⟨v0, rfl, ey, kp3, hL3⟩
    have e : tr.take (as.map V.ref).length = tr := by rw [List.length_map, T2.en.len, List.take_length]
    rw [e] at ey
    subst ey
    have T3 := T2.same kp3
    have S3 := S2.same kp3
    generalize hXS : tr.map lineOf = xs at hL3 fl1 fl2 fl3 hzL
    have hlx : xs.length = tr.length := by rw [← hXS, List.length_map]
    have la : as.length = tr.length := T2.en.len
    -- found
    refine ⟨_, rfl, l, _, rfl, .inl (SqL.of T3.ls), fun lc hlc => ?_⟩
    have kp4 : Kp [] H3 (upd H3 lc (.lst (as.map V.ref))) := Kp.new hlc
    refine ⟨lc, as, tr, rfl, ⟨upd_same, (T3.same kp4).en⟩, by omega, fll, fun fd' H5 hfd hfd5 kp5 => ?_⟩
    rw [hXS] at hfd5
    have kp35 := kp4.trans kp5
    have hL5 := kp35.get hL3 (by simp)
    have T5 := T3.same kp35
    have S5 := S3.same kp35
    refine ⟨_, rfl, _, _, _, true, rfl, .lst hfd5, kit_of (by decide +kernel), _, rfl, iteF ?_⟩
    refine ⟨_, rfl, fd', _, rfl, .inl (SqL.of hfd5), _, rfl, D0, _, rfl, .inl (SqL.of hL5), rfl, _, rfl, iteNS rfl ?_⟩
    -- the lines are those
    refine ⟨_, rfl, D0, _, rfl, .inl (SqL.of hL5), ?_⟩
    rw [List.length_map]
    refine ⟨_, rfl, by omega, by omega, ?_⟩
    have en : ((xs.length : Int)).toNat = xs.length := by omega
    refine for_range (lo := 0) (n := ((xs.length : Int)).toNat) (fun _ σ H6 => ∃ v, σ = [some (.ref a), some (.int m), some (.ref l), some (.ref D0), some (.ref fd'), v, none, none, none, none, none] ∧ H6 = H5) ⟨none, rfl, rfl⟩ ?_ ?_
    · rintro i σ H6 hi ⟨v, rfl, rfl⟩
      rw [en] at hi
      have e0 : (0 : Int) + (i : Int) = (i : Int) := by omega
      rw [e0]
      have ex : (List.map V.str xs)[i]? = some (.str xs[i]) := by rw [List.getElem?_map, List.getElem?_eq_getElem hi]; rfl
      refine ⟨_, rfl, _, rfl, fd', _, _, _, rfl, rfl, SqL.of hfd5, atI_nat ex, _, _, _, true, rfl, .str _, kit_of (by decide +kernel), _, rfl, iteF ?_⟩
      refine ⟨_, rfl, _, rfl, fd', _, _, _, rfl, rfl, SqL.of hfd5, atI_nat ex, _, rfl, _, rfl, D0, _, _, _, rfl, rfl, SqL.of hL5, atI_nat ex, rfl, _, rfl, iteNS rfl ?_⟩
      exact ⟨_, rfl, rfl⟩
    rintro σ H6 ⟨v, rfl, rfl⟩
    -- read back
    refine ⟨_, rfl, _, rfl, D0, _, rfl, .inl (SqL.of hL5), fun ld hld => ?_⟩
    have kp6 : Kp [] H6 (upd H6 ld (.lst (xs.map V.str))) := Kp.new hld
    refine ⟨m, ld, xs, rfl, ⟨upd_same, by omega, fl1⟩, fl2, by rw [fl3]; exact G.okT, fun bk ab H7 hbk T7 kp7 => ?_⟩
    rw [fl3] at T7
    have kp57 := kp6.trans kp7
    have hL7 := kp57.get hL5 (by simp)
    have Tt7 := T5.same kp57
    have S7 := S5.same kp57
    have lb : ab.length = tr.length := T7.en.len
    refine ⟨_, rfl, _, _, _, true, rfl, .lst T7.ls, kit_of (by decide +kernel), _, rfl, iteF ?_⟩
    refine ⟨_, rfl, bk, _, rfl, .inl (SqL.of T7.ls), _, rfl, l, _, rfl, .inl (SqL.of Tt7.ls), rfl, _, rfl, iteNS (by rw [List.length_map, List.length_map, lb, la]) ?_⟩
    refine ⟨_, rfl, l, _, rfl, .inl (SqL.of Tt7.ls), ?_⟩
    rw [List.length_map]
    refine ⟨_, rfl, by omega, by omega, ?_⟩
    have en2 : ((as.length : Int)).toNat = as.length := by omega
    refine for_range (lo := 0) (n := ((as.length : Int)).toNat) (fun _ σ H8 => ∃ v, σ = [some (.ref a), some (.int m), some (.ref l), some (.ref D0), some (.ref fd'), v, some (.ref bk), none, none, none, none] ∧ Kp [] H7 H8) ⟨v, rfl, Kp.refl _ _⟩ ?_ ?_
    · rintro i σ H8 hi ⟨v, rfl, kp8⟩
      rw [en2] at hi
      have e0 : (0 : Int) + (i : Int) = (i : Int) := by omega
      rw [e0]
      have hia : i < ab.length := by omega
      have exa : (List.map V.ref as)[i]? = some (.ref as[i]) := by rw [List.getElem?_map, List.getElem?_eq_getElem hi]; rfl
      have exb : (List.map V.ref ab)[i]? = some (.ref ab[i]) := by rw [List.getElem?_map, List.getElem?_eq_getElem hia]; rfl
      obtain ⟨xe, he1, he2⟩ := (T7.same kp8).en.get (List.getElem?_eq_getElem hia)
      obtain ⟨xe', he1', he2'⟩ := (Tt7.same kp8).en.get (List.getElem?_eq_getElem hi)
      obtain rfl : xe = xe' := by rw [he1] at he1'; exact Option.some.inj he1'
      obtain ⟨y, n⟩ := xe
      have hb8 := SqL.of (K := K) (T7.same kp8).ls
      have ha8 := SqL.of (K := K) (Tt7.same kp8).ls
      refine ⟨_, rfl, _, rfl, bk, _, _, _, rfl, rfl, hb8, atI_nat exb, _, _, _, true, rfl, .tup he2, kit_of (by decide +kernel), _, rfl, iteF ?_⟩
      refine ⟨_, rfl, _, rfl, bk, _, _, _, rfl, rfl, hb8, atI_nat exb, _, _, rfl, .inr (SqT.of he2), rfl, _, rfl, iteNS rfl ?_⟩
      refine ⟨_, rfl, _, rfl, bk, _, _, _, rfl, rfl, hb8, atI_nat exb, _, _, _, _, rfl, rfl, SqT.of he2, atI_nat (j := 0) rfl, _, _, _, true, rfl, .str _, kit_of (by decide +kernel), _, rfl, iteF ?_⟩
      refine ⟨_, rfl, _, rfl, bk, _, _, _, rfl, rfl, hb8, atI_nat exb, _, _, _, _, rfl, rfl, SqT.of he2, atI_nat (j := 1) rfl, _, rfl, _, rfl, iteF ?_⟩
      refine ⟨_, rfl, _, rfl, bk, _, _, _, rfl, rfl, hb8, atI_nat exb, _, rfl, _, rfl, l, _, _, _, rfl, rfl, ha8, atI_nat exa, _, _, (y, n), rfl, he2, he2', fun H9 kp9 => ⟨_, rfl, iteF ?_⟩⟩
      exact ⟨_, rfl, kp8.trans kp9⟩
    rintro σ H8 ⟨v5, rfl, kp8⟩
    have hL8 := kp8.get hL7 (by simp)
    have S8 := S7.same kp8
    clear T7 Tt7 hfd5 T5 T3 T2
    -- bad texts
    refine ⟨(by show 10 ≤ sizeLine; decide), fun b1 hb1 => ?_⟩
    have kp9 : Kp [] H8 (upd H8 b1 (.lst ((bads.take 10).map V.str))) := Kp.new hb1
    have hb19 : (upd H8 b1 (.lst ((bads.take 10).map V.str))) b1 = some (.lst ((bads.take 10).map V.str)) := upd_same
    refine abs (fun H9 => Kp [] H8 H9 ∧ H9 b1 = some (.lst ((bads.take 10).map V.str))) ⟨kp9, hb19⟩ ?_
    clear kp9 hb19
    rintro H9 ⟨kp9, hb19⟩
    refine ⟨_, rfl, (by show 7 ≤ sizeLine; decide), fun b2 hb2 => ?_⟩
    refine ⟨b1, b2, _, _, rfl, rfl, (Kp.new (ex := []) hb2).get hb19 (by simp), upd_same, (by show 17 ≤ sizeLine; decide), fun b3 hb3 => ?_⟩
    refine abs (fun HA => Kp [] H9 HA ∧ HA b3 = some (.lst (bads.map V.str))) ⟨(Kp.new hb2).trans (Kp.new hb3), upd_same⟩ ?_
    rintro HA ⟨kpA, hbA⟩
    have hLA := kpA.get (kp9.get hL8 (by simp)) (by simp)
    have SA := (S8.same kp9).same kpA
    -- spot
    refine ⟨_, rfl, a, ns, 1, rfl, SA.sq, _, _, rfl, rfl, .inr ⟨by decide, by decide⟩, _, _, rfl, rfl, (by show (0 : Int) < _; decide), _, rfl, D0, _, rfl, .inl (SqL.of hLA), _, _, rfl, rfl, _, _, rfl, rfl, ?_, ?_⟩
    · show (0 : Int) < _
      omega
    rw [List.length_map]
    refine gsetI fun spot hspot => ?_
    have hs0 : 0 ≤ spot := by rw [hspot]; exact Int.emod_nonneg _ (by omega)
    have hs1 : spot < xs.length + 1 := by rw [hspot]; exact Int.emod_lt_of_pos _ (by omega)
    clear hspot
    obtain ⟨j, rfl⟩ : ∃ j : Nat, spot = (j : Int) := ⟨spot.toNat, by omega⟩
    have fine3 : ∀ (us vs : List Str) (x : Str), (∀ y ∈ us, fine y = true) → (∀ y ∈ vs, fine y = true) → fine x = true → ∀ y ∈ us ++ [x] ++ vs, fine y = true := fun us vs x h1 h2 h3 y hy => by
      rcases List.mem_append.mp hy with z | z
      · rcases List.mem_append.mp z with z | z
        · exact h1 y z
        · rw [List.mem_singleton.mp z]; exact h3
      · exact h2 y z
    -- each bad text anywhere
    refine ⟨_, rfl, b3, rfl, ⟨_, SqL.of hbA⟩, ?_⟩
    refine for_list (K := K) (a := b3) (xs := bads.map V.str) (fun i σ HB => ∃ v, σ = [some (.ref a), some (.int m), some (.ref l), some (.ref D0), some (.ref fd'), v5, some (.ref bk), some (.ref b3), some (.int j), v, none] ∧ Kp [] HA HB)
      ⟨none, rfl, Kp.refl _ _⟩ (fun i σ HB _ ⟨_, _, e⟩ => SqL.of (e.get hbA (by simp))) ?_ ?_
    · rintro i v σ HB hx ⟨v9, rfl, kpB⟩
      rw [List.getElem?_map] at hx
      cases ex : bads[i]? with
      | none => rw [ex] at hx; cases hx
      | some x =>
        rw [ex] at hx
        obtain rfl : V.str x = v := Option.some.inj hx
        have hxb := List.mem_of_getElem? ex
        have hLB := kpB.get hLA (by simp)
        refine ⟨_, rfl, _, rfl, _, rfl, _, rfl, D0, _, rfl, SqL.of hLB, fun c1 hc1 => ?_⟩
        rw [cutS_hi]
        refine ⟨_, rfl, (by show 1 ≤ sizeLine; decide), fun c2 hc2 => ?_⟩
        have k1 : Kp [] HB (upd HB c1 (.lst ((xs.take j).map V.str))) := Kp.new hc1
        have h1 : (upd HB c1 (.lst ((xs.take j).map V.str))) c1 = some (.lst ((xs.take j).map V.str)) := upd_same
        generalize upd HB c1 (.lst ((xs.take j).map V.str)) = HC at k1 h1 hc2
        refine ⟨c1, c2, _, _, rfl, rfl, (Kp.new (ex := []) hc2).get h1 (by simp), upd_same, (by rw [List.length_map, List.length_take]; show _ + 1 ≤ _; omega), fun c3 hc3 => ?_⟩
        have k3 : Kp [] HC (upd (upd HC c2 (.lst [V.str x])) c3 (.lst ((xs.take j).map V.str ++ [V.str x]))) := (Kp.new hc2).trans (Kp.new hc3)
        have h3 : (upd (upd HC c2 (.lst [V.str x])) c3 (.lst ((xs.take j).map V.str ++ [V.str x]))) c3 = some (.lst ((xs.take j ++ [x]).map V.str)) := by rw [upd_same, List.map_append]; rfl
        generalize upd (upd HC c2 (.lst [V.str x])) c3 (.lst ((xs.take j).map V.str ++ [V.str x])) = HD at k3 h3
        refine ⟨_, rfl, _, rfl, _, rfl, D0, _, rfl, SqL.of ((k1.trans k3).get hLB (by simp)), fun c4 hc4 => ?_⟩
        rw [cut_lo V.str xs j]
        refine ⟨c3, c4, _, _, rfl, rfl, (Kp.new (ex := []) hc4).get h3 (by simp), upd_same, (by rw [List.length_map, List.length_map, List.length_append, List.length_take, List.length_drop]; show _ + 1 + _ ≤ _; omega), fun c5 hc5 => ?_⟩
        refine ⟨m, c5, xs.take j ++ [x] ++ xs.drop j, rfl, ⟨?_, ?_, fine3 _ _ _ (fun y hy => fl1 y (List.mem_of_mem_take hy)) (fun y hy => fl1 y (List.mem_of_mem_drop hy)) (bad_of hxb).2⟩, fun HE kpE => ?_⟩
        · rw [upd_same]; simp only [List.map_append]
        · simp only [List.length_append, List.length_take, List.length_drop, List.length_singleton]; omega
        rw [told_bad hxb]
        refine ⟨rfl, _, rfl, iteNS rfl ?_⟩
        exact ⟨_, rfl, (kpB.trans ((k1.trans k3).trans ((Kp.new hc4).trans (Kp.new hc5)))).trans kpE⟩
    rintro σ HB ⟨v9, rfl, kpB⟩
    have hLB := kpB.get hLA (by simp)
    have hbB := kpB.get hbA (by simp)
    -- the wrong ones
    have fine1 : ∀ (n : Int), 0 ≤ n → n ≤ 41 → n.natAbs.log2 < 1920 ∧ (Str.ofString (toString n)).length ≤ 1921 := fun n h0 h1 => by
      have q := small_log2 h0 (show n ≤ 500 by omega)
      exact ⟨q, by rw [PySem.ofString_length]; exact int_text_length_le (by decide) q⟩
    have f1 := fine1 (m + 1) (by omega) (by omega)
    have f2 := fine1 m (by omega) (by omega)
    have big5 : (5000 : Nat) ≤ sizeLine := by decide
    refine ⟨_, rfl, _, _, rfl, rfl, _, rfl, f1.1, _, _, rfl, rfl, (by show (4 : Nat) + (Str.ofString (toString (m + 1))).length ≤ _; omega), _, rfl, _, rfl, f2.1, _, _, rfl, rfl, (by show (6 : Nat) + (Str.ofString (toString m)).length ≤ _; omega), (by show 3 ≤ sizeLine; decide), fun w1 hw1 => ?_⟩
    have el1 : ("did " : Str) ++ Str.ofString (toString (m + 1)) = lineOf ("did", m + 1) := by
      unfold lineOf
      rw [show (("did" : Str) ++ (" " : Str)) = ("did " : Str) by decide +kernel]
    have el2 : ("undid " : Str) ++ Str.ofString (toString m) = lineOf ("undid", m) := by
      unfold lineOf
      rw [show (("undid" : Str) ++ (" " : Str)) = ("undid " : Str) by decide +kernel]
    have wok : ∀ x ∈ ([lineOf ("did", m + 1), lineOf ("undid", m), "no 1000000000000000000000"] : List Str), ∃ e : En, lineE x = some e ∧ fine x = true ∧ m ≤ e.2 := by
      intro x hx
      simp only [List.mem_cons, List.not_mem_nil, or_false] at hx
      rcases hx with z | z | z
      · rw [z]; exact ⟨_, (line_ok (.inl rfl) ⟨by dsimp only; omega, by dsimp only; omega⟩).1, (line_ok (.inl rfl) ⟨by dsimp only; omega, by dsimp only; omega⟩).2, by dsimp only; omega⟩
      · rw [z]; exact ⟨_, (line_ok (.inr (.inr (.inr rfl))) ⟨by dsimp only; omega, by dsimp only; omega⟩).1, (line_ok (.inr (.inr (.inr rfl))) ⟨by dsimp only; omega, by dsimp only; omega⟩).2, by dsimp only; omega⟩
      · rw [z]; exact ⟨_, big_ok.1, big_ok.2, by dsimp only; omega⟩
    refine abs (fun HC => Kp [] HB HC ∧ HC w1 = some (.lst (([lineOf ("did", m + 1), lineOf ("undid", m), "no 1000000000000000000000"] : List Str).map V.str))) ⟨Kp.new hw1, by rw [← el1, ← el2]; exact upd_same⟩ ?_
    rintro HC ⟨kpC, hwC⟩
    generalize ([lineOf ("did", m + 1), lineOf ("undid", m), "no 1000000000000000000000"] : List Str) = ws at wok hwC
    have hLC := kpC.get hLB (by simp)
    have hbC := kpC.get hbB (by simp)
    refine ⟨_, rfl, w1, rfl, ⟨_, SqL.of hwC⟩, ?_⟩
    refine for_list (K := K) (a := w1) (xs := ws.map V.str) (fun i σ HD => ∃ v, σ = [some (.ref a), some (.int m), some (.ref l), some (.ref D0), some (.ref fd'), v5, some (.ref bk), some (.ref b3), some (.int j), v, some (.ref w1)] ∧ Kp [] HC HD)
      ⟨v9, rfl, Kp.refl _ _⟩ (fun i σ HB _ ⟨_, _, e⟩ => SqL.of (e.get hwC (by simp))) ?_ ?_
    · rintro i v σ HD hx ⟨v9, rfl, kpD⟩
      rw [List.getElem?_map] at hx
      cases ex : ws[i]? with
      | none => rw [ex] at hx; cases hx
      | some x =>
        rw [ex] at hx
        obtain rfl : V.str x = v := Option.some.inj hx
        obtain ⟨e, he1, he2, he3⟩ := wok x (List.mem_of_getElem? ex)
        have hLD := kpD.get hLC (by simp)
        have ha : allE (xs ++ [x]) = true := by
          unfold allE at fl2 ⊢
          rw [List.all_append, fl2, List.all_cons, he1]; rfl
        have ho : okT m (entE (xs ++ [x])) = false := by
          rw [entE_snoc xs he1, fl3]
          exact cant hm0 G F he3
        have hf2 : ∀ y ∈ xs ++ [x], fine y = true := fun y hy => by
          rcases List.mem_append.mp hy with z | z
          · exact fl1 y z
          · rw [List.mem_singleton.mp z]; exact he2
        have hle : (xs ++ [x]).length ≤ 300 := by rw [List.length_append]; show _ + 1 ≤ _; omega
        refine ⟨_, rfl, _, rfl, _, rfl, (by show 1 ≤ sizeLine; decide), fun c1 hc1 => ?_⟩
        refine ⟨D0, c1, _, _, rfl, rfl, (Kp.new (ex := []) hc1).get hLD (by simp), upd_same, (by rw [List.length_map]; show _ + 1 ≤ _; omega), fun c2 hc2 => ?_⟩
        refine ⟨m, c2, xs ++ [x], rfl, ⟨by rw [upd_same, List.map_append]; rfl, hle, hf2⟩, fun HE kpE => ?_⟩
        have et : toldW m (xs ++ [x]) = "no trail" := by unfold toldW; rw [if_pos ha, if_neg (by rw [ho]; simp)]
        rw [et]
        refine ⟨rfl, _, rfl, iteNS rfl ?_⟩
        have kpF := ((Kp.new (ex := []) hc1).trans (Kp.new (ex := []) (o := .lst (xs.map V.str ++ [V.str x])) hc2)).trans kpE
        have hLE := kpF.get hLD (by simp)
        refine ⟨_, rfl, _, rfl, _, rfl, (by show 1 ≤ sizeLine; decide), fun c3 hc3 => ?_⟩
        refine ⟨D0, c3, _, _, rfl, rfl, (Kp.new (ex := []) hc3).get hLE (by simp), upd_same, (by rw [List.length_map]; show _ + 1 ≤ _; omega), fun c4 hc4 => ?_⟩
        refine ⟨m, c4, xs ++ [x], rfl, ⟨by rw [upd_same, List.map_append]; rfl, hle, hf2⟩, ha, ho, fun HG kpG => ⟨_, rfl, iteF ?_⟩⟩
        exact ⟨_, rfl, ((kpD.trans kpF).trans ((Kp.new hc3).trans (Kp.new hc4))).trans kpG⟩
    rintro σ HD ⟨v9', rfl, kpD⟩
    have hLD := kpD.get hLC (by simp)
    have hbD := kpD.get hbC (by simp)
    -- the last
    have hjn : (0 : Int) ≤ (j : Int) % 17 ∧ (j : Int) % 17 < 17 := ⟨Int.emod_nonneg _ (by decide), Int.emod_lt_of_pos _ (by decide)⟩
    obtain ⟨jn, hjn'⟩ : ∃ n : Nat, (j : Int) % 17 = (n : Int) := ⟨((j : Int) % 17).toNat, by omega⟩
    have hjl : jn < bads.length := by show jn < 17; omega
    have exb : (bads.map V.str)[jn]? = some (.str bads[jn]) := by rw [List.getElem?_map, List.getElem?_eq_getElem hjl]; rfl
    refine ⟨_, rfl, (by show 1 ≤ sizeLine; decide), fun c1 hc1 => ⟨_, rfl, ?_⟩⟩
    refine ⟨c1, D0, _, _, rfl, rfl, upd_same, (Kp.new (ex := []) hc1).get hLD (by simp), (by rw [List.length_map]; show 1 + _ ≤ _; omega), fun c2 hc2 => ?_⟩
    have kp2' := (Kp.new (ex := []) (o := .lst [V.str "did 999999"]) hc1).trans (Kp.new (ex := []) (o := .lst ([V.str "did 999999"] ++ xs.map V.str)) hc2)
    have h2 : (upd (upd HD c1 (.lst [V.str "did 999999"])) c2 (.lst ([V.str "did 999999"] ++ xs.map V.str))) c2 = some (.lst ((("did 999999" : Str) :: xs).map V.str)) := upd_same
    generalize upd (upd HD c1 (.lst [V.str "did 999999"])) c2 (.lst ([V.str "did 999999"] ++ xs.map V.str)) = HE at kp2' h2
    refine ⟨_, rfl, _, rfl, _, _, rfl, rfl, (by show (0 : Int) < _; decide), b3, _, _, _, rfl, rfl, SqL.of (kp2'.get hbD (by simp)), (by rw [hjn']; exact atI_nat exb), (by show 1 ≤ sizeLine; decide), fun c3 hc3 => ?_⟩
    refine ⟨c2, c3, _, _, rfl, rfl, (Kp.new (ex := []) hc3).get h2 (by simp), upd_same, (by rw [List.length_map]; show (xs.length + 1) + 1 ≤ _; omega), fun c4 hc4 => ?_⟩
    refine ⟨m, c4, (("did 999999" : Str) :: xs) ++ [bads[jn]], rfl, ⟨by rw [upd_same, List.map_append]; rfl, by rw [List.length_append]; show (xs.length + 1) + 1 ≤ _; omega, fun y hy => ?_⟩, fun HG kpG => ?_⟩
    · rcases List.mem_append.mp hy with z | z
      · rcases List.mem_cons.mp z with z | z
        · rw [z]; exact first_ok
        · exact fl1 y z
      · rw [List.mem_singleton.mp z]; exact (bad_of (List.getElem_mem hjl)).2
    · have := told_bad (m := m) (xs := ("did 999999" : Str) :: xs) (ys := []) (List.getElem_mem hjl)
      rw [List.append_nil] at this
      rw [this]
      exact ⟨rfl, k _⟩
end
end K12

end
set_option Elab.async false
set_option linter.all false
set_option maxRecDepth 100000
set_option maxHeartbeats 4000000
namespace K12
open PySem L2
theorem all_mk {l : PySem.W.OpenLaw} {w : World} {K : PySem.W.Frag} {h : Heap} {mg : Str → Option Value} {fgt : Tok} {fa C_TrailError C_NoDesk C_NoWork C_NoTrail C_NoLine FW WD f_do_or_done f_undo_or_undone f_next_behind f_next_of f_can_stand f_check_trail f_shown f_is_number f_number_of f_entry_of f_read f_law_so f_law_whole f_law_at f_law_next f_law_trail_of f_law_told f_law_under_base f_law : Addr} (X : K.In h) (G : h.Ns mainGlobals mg) (hfa : mg "law" = some (.ref fa))
    {od0 an0 od1 an1 od2 an2 od3 an3 od4 an4 od5 an5 od6 an6 od7 an7 od8 an8 od9 an9 od10 an10 od11 an11 od12 an12 od13 an13 od14 an14 od15 an15 od16 an16 od17 an17 od18 an18 : Option Addr} {sl0 sl1 sl2 sl3 sl4 sl5 sl6 sl7 sl8 sl9 sl10 sl11 sl12 sl13 sl14 sl15 sl16 sl17 sl18 : Array (Option Value)} {oc0 kV0 dc0 pm0 cd0 ct0 oc1 kV1 dc1 pm1 cd1 ct1 oc2 kV2 dc2 pm2 cd2 ct2 oc3 kV3 dc3 pm3 cd3 ct3 oc4 kV4 dc4 pm4 cd4 ct4 oc5 kV5 dc5 pm5 cd5 ct5 oc6 kV6 dc6 pm6 cd6 ct6 oc7 kV7 dc7 pm7 cd7 ct7 oc8 kV8 dc8 pm8 cd8 ct8 oc9 kV9 dc9 pm9 cd9 ct9 oc10 kV10 dc10 pm10 cd10 ct10 oc11 kV11 dc11 pm11 cd11 ct11 oc12 kV12 dc12 pm12 cd12 ct12 oc13 kV13 dc13 pm13 cd13 ct13 oc14 kV14 dc14 pm14 cd14 ct14 oc15 kV15 dc15 pm15 cd15 ct15 oc16 kV16 dc16 pm16 cd16 ct16 oc17 kV17 dc17 pm17 cd17 ct17 oc18 kV18 dc18 pm18 cd18 ct18 : Value}
    (aC_TrailError : PySem.W.nsIn K mainGlobals "TrailError" = some (some (.ref C_TrailError)))
    (aC_NoDesk : PySem.W.nsIn K mainGlobals "NoDesk" = some (some (.ref C_NoDesk)))
    (aC_NoWork : PySem.W.nsIn K mainGlobals "NoWork" = some (some (.ref C_NoWork)))
    (aC_NoTrail : PySem.W.nsIn K mainGlobals "NoTrail" = some (some (.ref C_NoTrail)))
    (aC_NoLine : PySem.W.nsIn K mainGlobals "NoLine" = some (some (.ref C_NoLine)))
    (aWD : PySem.W.nsIn K mainGlobals "WORDS" = some (some (.ref WD)))
    (aFG : PySem.W.nsIn K mainGlobals "FIGURES" = some (some (.str "0123456789" fgt)))
    (hWD : tupIn K WD wd4 = true)
    (aFW : PySem.W.nsIn K mainGlobals "FITTING_WORDS" = some (some (.ref FW)))
    (x_hn : PySem.W.specialIn K (.builtin "object.__class__") "__get__" = some (some (.builtin "getset_descriptor.__get__")))
    (x_tk : PySem.W.takesIn K (.builtin "object.__class__") = some true)
    (xga_TrailError : PySem.W.findIn K (.ref C_TrailError) "__getattribute__" = some (some (.builtin "BaseException.__getattribute__")))
    (xgn_TrailError : PySem.W.findIn K (.ref C_TrailError) "__getattr__" = some none)
    (xcl_TrailError : PySem.W.findIn K (.ref C_TrailError) "__class__" = some (some (.builtin "object.__class__")))
    (xmo_TrailError : PySem.W.mroIn K C_TrailError (.type "object") = some true)
    (xmb_TrailError : PySem.W.mroIn K C_TrailError (.type "BaseException") = some true)
    (xty_TrailError : PySem.W.typeIn K (.ref C_TrailError) = some (.type "type"))
    (xga_NoDesk : PySem.W.findIn K (.ref C_NoDesk) "__getattribute__" = some (some (.builtin "BaseException.__getattribute__")))
    (xgn_NoDesk : PySem.W.findIn K (.ref C_NoDesk) "__getattr__" = some none)
    (xcl_NoDesk : PySem.W.findIn K (.ref C_NoDesk) "__class__" = some (some (.builtin "object.__class__")))
    (xmo_NoDesk : PySem.W.mroIn K C_NoDesk (.type "object") = some true)
    (xmb_NoDesk : PySem.W.mroIn K C_NoDesk (.type "BaseException") = some true)
    (xty_NoDesk : PySem.W.typeIn K (.ref C_NoDesk) = some (.type "type"))
    (xga_NoWork : PySem.W.findIn K (.ref C_NoWork) "__getattribute__" = some (some (.builtin "BaseException.__getattribute__")))
    (xgn_NoWork : PySem.W.findIn K (.ref C_NoWork) "__getattr__" = some none)
    (xcl_NoWork : PySem.W.findIn K (.ref C_NoWork) "__class__" = some (some (.builtin "object.__class__")))
    (xmo_NoWork : PySem.W.mroIn K C_NoWork (.type "object") = some true)
    (xmb_NoWork : PySem.W.mroIn K C_NoWork (.type "BaseException") = some true)
    (xty_NoWork : PySem.W.typeIn K (.ref C_NoWork) = some (.type "type"))
    (xga_NoTrail : PySem.W.findIn K (.ref C_NoTrail) "__getattribute__" = some (some (.builtin "BaseException.__getattribute__")))
    (xgn_NoTrail : PySem.W.findIn K (.ref C_NoTrail) "__getattr__" = some none)
    (xcl_NoTrail : PySem.W.findIn K (.ref C_NoTrail) "__class__" = some (some (.builtin "object.__class__")))
    (xmo_NoTrail : PySem.W.mroIn K C_NoTrail (.type "object") = some true)
    (xmb_NoTrail : PySem.W.mroIn K C_NoTrail (.type "BaseException") = some true)
    (xty_NoTrail : PySem.W.typeIn K (.ref C_NoTrail) = some (.type "type"))
    (xga_NoLine : PySem.W.findIn K (.ref C_NoLine) "__getattribute__" = some (some (.builtin "BaseException.__getattribute__")))
    (xgn_NoLine : PySem.W.findIn K (.ref C_NoLine) "__getattr__" = some none)
    (xcl_NoLine : PySem.W.findIn K (.ref C_NoLine) "__class__" = some (some (.builtin "object.__class__")))
    (xmo_NoLine : PySem.W.mroIn K C_NoLine (.type "object") = some true)
    (xmb_NoLine : PySem.W.mroIn K C_NoLine (.type "BaseException") = some true)
    (xty_NoLine : PySem.W.typeIn K (.ref C_NoLine) = some (.type "type"))
    (m_self : PySem.W.mroIn K C_NoTrail (.ref C_NoTrail) = some true)
    (m_L : PySem.W.mroIn K C_NoLine (.ref C_NoLine) = some true)
    (m_TL : PySem.W.mroIn K C_NoTrail (.ref C_NoLine) = some false)
    (m_base : PySem.W.mroIn K C_NoTrail (.ref C_TrailError) = some true)
    (s_NoDesk : PySem.W.subIn K (.ref C_NoTrail) (.ref C_NoDesk) = some false)
    (n_NoDesk : C_NoTrail ≠ C_NoDesk)
    (s_NoWork : PySem.W.subIn K (.ref C_NoTrail) (.ref C_NoWork) = some false)
    (n_NoWork : C_NoTrail ≠ C_NoWork)
    (s_NoLine : PySem.W.subIn K (.ref C_NoTrail) (.ref C_NoLine) = some false)
    (n_NoLine : C_NoTrail ≠ C_NoLine)
    (s_V : PySem.W.subIn K (.ref C_NoTrail) (.type "ValueError") = some true)
    (q_NoTrail : PySem.W.excIn K C_NoTrail [.type "ValueError", .type "Exception", .type "BaseException", .type "object"] "ValueError.__new__" = true)
    (q_NoLine : PySem.W.excIn K C_NoLine [.type "ValueError", .type "Exception", .type "BaseException", .type "object"] "ValueError.__new__" = true)
    (w_d : wordsIn K FW "do" ["did", "no", "unsure"] = true)
    (w_u : wordsIn K FW "undo" ["undid"] = true)
    (w_e : wordsIn K FW "end" [] = true)
    (a_do_or_done : PySem.W.nsIn K mainGlobals "do_or_done" = some (some (.ref f_do_or_done)))
    (l_do_or_done : K.lookup f_do_or_done = some ⟨oc0, od0, .func (PySem.W.fnOf "do_or_done" "do_or_done" (defArgs sDo) (defBody sDo) (defScope sDo) .none kV0 dc0 pm0 an0 cd0 ct0), sl0⟩)
    (c_do_or_done : PySem.W.codeIn K cd0 "do_or_done" = true)
    (k_do_or_done : PySem.W.keepIn K (.ref f_do_or_done) = true)
    (a_undo_or_undone : PySem.W.nsIn K mainGlobals "undo_or_undone" = some (some (.ref f_undo_or_undone)))
    (l_undo_or_undone : K.lookup f_undo_or_undone = some ⟨oc1, od1, .func (PySem.W.fnOf "undo_or_undone" "undo_or_undone" (defArgs sUn) (defBody sUn) (defScope sUn) .none kV1 dc1 pm1 an1 cd1 ct1), sl1⟩)
    (c_undo_or_undone : PySem.W.codeIn K cd1 "undo_or_undone" = true)
    (k_undo_or_undone : PySem.W.keepIn K (.ref f_undo_or_undone) = true)
    (a_next_behind : PySem.W.nsIn K mainGlobals "next_behind" = some (some (.ref f_next_behind)))
    (l_next_behind : K.lookup f_next_behind = some ⟨oc2, od2, .func (PySem.W.fnOf "next_behind" "next_behind" (defArgs sBeh) (defBody sBeh) (defScope sBeh) .none kV2 dc2 pm2 an2 cd2 ct2), sl2⟩)
    (c_next_behind : PySem.W.codeIn K cd2 "next_behind" = true)
    (k_next_behind : PySem.W.keepIn K (.ref f_next_behind) = true)
    (a_next_of : PySem.W.nsIn K mainGlobals "next_of" = some (some (.ref f_next_of)))
    (l_next_of : K.lookup f_next_of = some ⟨oc3, od3, .func (PySem.W.fnOf "next_of" "next_of" (defArgs sNx) (defBody sNx) (defScope sNx) .none kV3 dc3 pm3 an3 cd3 ct3), sl3⟩)
    (c_next_of : PySem.W.codeIn K cd3 "next_of" = true)
    (k_next_of : PySem.W.keepIn K (.ref f_next_of) = true)
    (a_can_stand : PySem.W.nsIn K mainGlobals "can_stand" = some (some (.ref f_can_stand)))
    (l_can_stand : K.lookup f_can_stand = some ⟨oc4, od4, .func (PySem.W.fnOf "can_stand" "can_stand" (defArgs sCan) (defBody sCan) (defScope sCan) .none kV4 dc4 pm4 an4 cd4 ct4), sl4⟩)
    (c_can_stand : PySem.W.codeIn K cd4 "can_stand" = true)
    (k_can_stand : PySem.W.keepIn K (.ref f_can_stand) = true)
    (a_check_trail : PySem.W.nsIn K mainGlobals "check_trail" = some (some (.ref f_check_trail)))
    (l_check_trail : K.lookup f_check_trail = some ⟨oc5, od5, .func (PySem.W.fnOf "check_trail" "check_trail" (defArgs sChk) (defBody sChk) (defScope sChk) .none kV5 dc5 pm5 an5 cd5 ct5), sl5⟩)
    (c_check_trail : PySem.W.codeIn K cd5 "check_trail" = true)
    (k_check_trail : PySem.W.keepIn K (.ref f_check_trail) = true)
    (a_shown : PySem.W.nsIn K mainGlobals "shown" = some (some (.ref f_shown)))
    (l_shown : K.lookup f_shown = some ⟨oc6, od6, .func (PySem.W.fnOf "shown" "shown" (defArgs sShown) (defBody sShown) (defScope sShown) .none kV6 dc6 pm6 an6 cd6 ct6), sl6⟩)
    (c_shown : PySem.W.codeIn K cd6 "shown" = true)
    (k_shown : PySem.W.keepIn K (.ref f_shown) = true)
    (a_is_number : PySem.W.nsIn K mainGlobals "is_number" = some (some (.ref f_is_number)))
    (l_is_number : K.lookup f_is_number = some ⟨oc7, od7, .func (PySem.W.fnOf "is_number" "is_number" (defArgs sIsN) (defBody sIsN) (defScope sIsN) .none kV7 dc7 pm7 an7 cd7 ct7), sl7⟩)
    (c_is_number : PySem.W.codeIn K cd7 "is_number" = true)
    (k_is_number : PySem.W.keepIn K (.ref f_is_number) = true)
    (a_number_of : PySem.W.nsIn K mainGlobals "number_of" = some (some (.ref f_number_of)))
    (l_number_of : K.lookup f_number_of = some ⟨oc8, od8, .func (PySem.W.fnOf "number_of" "number_of" (defArgs sNum) (defBody sNum) (defScope sNum) .none kV8 dc8 pm8 an8 cd8 ct8), sl8⟩)
    (c_number_of : PySem.W.codeIn K cd8 "number_of" = true)
    (k_number_of : PySem.W.keepIn K (.ref f_number_of) = true)
    (a_entry_of : PySem.W.nsIn K mainGlobals "entry_of" = some (some (.ref f_entry_of)))
    (l_entry_of : K.lookup f_entry_of = some ⟨oc9, od9, .func (PySem.W.fnOf "entry_of" "entry_of" (defArgs sEnt) (defBody sEnt) (defScope sEnt) .none kV9 dc9 pm9 an9 cd9 ct9), sl9⟩)
    (c_entry_of : PySem.W.codeIn K cd9 "entry_of" = true)
    (k_entry_of : PySem.W.keepIn K (.ref f_entry_of) = true)
    (a_read : PySem.W.nsIn K mainGlobals "read" = some (some (.ref f_read)))
    (l_read : K.lookup f_read = some ⟨oc10, od10, .func (PySem.W.fnOf "read" "read" (defArgs sRead) (defBody sRead) (defScope sRead) .none kV10 dc10 pm10 an10 cd10 ct10), sl10⟩)
    (c_read : PySem.W.codeIn K cd10 "read" = true)
    (k_read : PySem.W.keepIn K (.ref f_read) = true)
    (a_law_so : PySem.W.nsIn K mainGlobals "_law_so" = some (some (.ref f_law_so)))
    (l_law_so : K.lookup f_law_so = some ⟨oc11, od11, .func (PySem.W.fnOf "_law_so" "_law_so" (defArgs sSo) (defBody sSo) (defScope sSo) .none kV11 dc11 pm11 an11 cd11 ct11), sl11⟩)
    (c_law_so : PySem.W.codeIn K cd11 "_law_so" = true)
    (k_law_so : PySem.W.keepIn K (.ref f_law_so) = true)
    (a_law_whole : PySem.W.nsIn K mainGlobals "_law_whole" = some (some (.ref f_law_whole)))
    (l_law_whole : K.lookup f_law_whole = some ⟨oc12, od12, .func (PySem.W.fnOf "_law_whole" "_law_whole" (defArgs sWhole) (defBody sWhole) (defScope sWhole) .none kV12 dc12 pm12 an12 cd12 ct12), sl12⟩)
    (c_law_whole : PySem.W.codeIn K cd12 "_law_whole" = true)
    (k_law_whole : PySem.W.keepIn K (.ref f_law_whole) = true)
    (a_law_at : PySem.W.nsIn K mainGlobals "_law_at" = some (some (.ref f_law_at)))
    (l_law_at : K.lookup f_law_at = some ⟨oc13, od13, .func (PySem.W.fnOf "_law_at" "_law_at" (defArgs sAt) (defBody sAt) (defScope sAt) .none kV13 dc13 pm13 an13 cd13 ct13), sl13⟩)
    (c_law_at : PySem.W.codeIn K cd13 "_law_at" = true)
    (k_law_at : PySem.W.keepIn K (.ref f_law_at) = true)
    (a_law_next : PySem.W.nsIn K mainGlobals "_law_next" = some (some (.ref f_law_next)))
    (l_law_next : K.lookup f_law_next = some ⟨oc14, od14, .func (PySem.W.fnOf "_law_next" "_law_next" (defArgs sLNx) (defBody sLNx) (defScope sLNx) .none kV14 dc14 pm14 an14 cd14 ct14), sl14⟩)
    (c_law_next : PySem.W.codeIn K cd14 "_law_next" = true)
    (k_law_next : PySem.W.keepIn K (.ref f_law_next) = true)
    (a_law_trail_of : PySem.W.nsIn K mainGlobals "_law_trail_of" = some (some (.ref f_law_trail_of)))
    (l_law_trail_of : K.lookup f_law_trail_of = some ⟨oc15, od15, .func (PySem.W.fnOf "_law_trail_of" "_law_trail_of" (defArgs sTOf) (defBody sTOf) (defScope sTOf) .none kV15 dc15 pm15 an15 cd15 ct15), sl15⟩)
    (c_law_trail_of : PySem.W.codeIn K cd15 "_law_trail_of" = true)
    (k_law_trail_of : PySem.W.keepIn K (.ref f_law_trail_of) = true)
    (a_law_told : PySem.W.nsIn K mainGlobals "_law_told" = some (some (.ref f_law_told)))
    (l_law_told : K.lookup f_law_told = some ⟨oc16, od16, .func (PySem.W.fnOf "_law_told" "_law_told" (defArgs sTold) (defBody sTold) (defScope sTold) .none kV16 dc16 pm16 an16 cd16 ct16), sl16⟩)
    (c_law_told : PySem.W.codeIn K cd16 "_law_told" = true)
    (k_law_told : PySem.W.keepIn K (.ref f_law_told) = true)
    (a_law_under_base : PySem.W.nsIn K mainGlobals "_law_under_base" = some (some (.ref f_law_under_base)))
    (l_law_under_base : K.lookup f_law_under_base = some ⟨oc17, od17, .func (PySem.W.fnOf "_law_under_base" "_law_under_base" (defArgs sUB) (defBody sUB) (defScope sUB) .none kV17 dc17 pm17 an17 cd17 ct17), sl17⟩)
    (c_law_under_base : PySem.W.codeIn K cd17 "_law_under_base" = true)
    (k_law_under_base : PySem.W.keepIn K (.ref f_law_under_base) = true)
    (a_law : PySem.W.nsIn K mainGlobals "law" = some (some (.ref f_law)))
    (l_law : K.lookup f_law = some ⟨oc18, od18, .func (PySem.W.fnOf "law" "law" (defArgs sLaw) (defBody sLaw) (defScope sLaw) .none kV18 dc18 pm18 an18 cd18 ct18), sl18⟩)
    (c_law : PySem.W.codeIn K cd18 "law" = true)
    (k_law : PySem.W.keepIn K (.ref f_law) = true)
    (z_len : PySem.W.nsIn K mainGlobals "len" = some none)
    (z_isinstance : PySem.W.nsIn K mainGlobals "isinstance" = some none)
    (z_dict : PySem.W.nsIn K mainGlobals "dict" = some none)
    (z_list_ : PySem.W.nsIn K mainGlobals "list" = some none)
    (z_tuple : PySem.W.nsIn K mainGlobals "tuple" = some none)
    (z_int_ : PySem.W.nsIn K mainGlobals "int" = some none)
    (z_bool : PySem.W.nsIn K mainGlobals "bool" = some none)
    (z_str : PySem.W.nsIn K mainGlobals "str" = some none)
    (z_range : PySem.W.nsIn K mainGlobals "range" = some none)
    (z_enumerate : PySem.W.nsIn K mainGlobals "enumerate" = some none)
    (z_ValueError : PySem.W.nsIn K mainGlobals "ValueError" = some none) :
    ∃ fd : FuncData, (∀ (s : Shared) (v : Value), BindsTo s fd ⟨[v], []⟩ [("_law_script", v)]) ∧ ∀ base : Heap, K.In base → base.Ns mainGlobals mg → FnOk l.prog w K mg base CX0 7 fa fd ["_law_script"] (spLaw K) := by
  have e := hfa.symm.trans (PySem.W.mg_of X G a_law)
  cases e
  have B : Blt mg := ⟨PySem.W.mg_none_of X G z_len, PySem.W.mg_none_of X G z_isinstance, PySem.W.mg_none_of X G z_dict, PySem.W.mg_none_of X G z_list_, PySem.W.mg_none_of X G z_tuple, PySem.W.mg_none_of X G z_int_, PySem.W.mg_none_of X G z_bool, PySem.W.mg_none_of X G z_str, PySem.W.mg_none_of X G z_range, PySem.W.mg_none_of X G z_enumerate, PySem.W.mg_none_of X G z_ValueError⟩
  have F_do_or_done := fun_mk (st := sDo) l_do_or_done c_do_or_done k_do_or_done
  have b_do_or_done := F_do_or_done.binds (ps := ["many", "step"]) fun _ _ _ _ _ _ us hl => match us, hl with | [_, _], _ => rfl
  have F_undo_or_undone := fun_mk (st := sUn) l_undo_or_undone c_undo_or_undone k_undo_or_undone
  have b_undo_or_undone := F_undo_or_undone.binds (ps := ["step"]) fun _ _ _ _ _ _ us hl => match us, hl with | [_], _ => rfl
  have F_next_behind := fun_mk (st := sBeh) l_next_behind c_next_behind k_next_behind
  have b_next_behind := F_next_behind.binds (ps := ["many", "word", "step"]) fun _ _ _ _ _ _ us hl => match us, hl with | [_, _, _], _ => rfl
  have F_next_of := fun_mk (st := sNx) l_next_of c_next_of k_next_of
  have b_next_of := F_next_of.binds (ps := ["many", "trail"]) fun _ _ _ _ _ _ us hl => match us, hl with | [_, _], _ => rfl
  have F_can_stand := fun_mk (st := sCan) l_can_stand c_can_stand k_can_stand
  have b_can_stand := F_can_stand.binds (ps := ["entry", "coming"]) fun _ _ _ _ _ _ us hl => match us, hl with | [_, _], _ => rfl
  have F_check_trail := fun_mk (st := sChk) l_check_trail c_check_trail k_check_trail
  have b_check_trail := F_check_trail.binds (ps := ["many", "trail"]) fun _ _ _ _ _ _ us hl => match us, hl with | [_, _], _ => rfl
  have F_shown := fun_mk (st := sShown) l_shown c_shown k_shown
  have b_shown := F_shown.binds (ps := ["trail"]) fun _ _ _ _ _ _ us hl => match us, hl with | [_], _ => rfl
  have F_is_number := fun_mk (st := sIsN) l_is_number c_is_number k_is_number
  have b_is_number := F_is_number.binds (ps := ["text"]) fun _ _ _ _ _ _ us hl => match us, hl with | [_], _ => rfl
  have F_number_of := fun_mk (st := sNum) l_number_of c_number_of k_number_of
  have b_number_of := F_number_of.binds (ps := ["figures"]) fun _ _ _ _ _ _ us hl => match us, hl with | [_], _ => rfl
  have F_entry_of := fun_mk (st := sEnt) l_entry_of c_entry_of k_entry_of
  have b_entry_of := F_entry_of.binds (ps := ["line"]) fun _ _ _ _ _ _ us hl => match us, hl with | [_], _ => rfl
  have F_read := fun_mk (st := sRead) l_read c_read k_read
  have b_read := F_read.binds (ps := ["many", "lines"]) fun _ _ _ _ _ _ us hl => match us, hl with | [_, _], _ => rfl
  have F_law_so := fun_mk (st := sSo) l_law_so c_law_so k_law_so
  have b_law_so := F_law_so.binds (ps := ["_law_found", "_law_meant"]) fun _ _ _ _ _ _ us hl => match us, hl with | [_, _], _ => rfl
  have F_law_whole := fun_mk (st := sWhole) l_law_whole c_law_whole k_law_whole
  have b_law_whole := F_law_whole.binds (ps := ["_law_found"]) fun _ _ _ _ _ _ us hl => match us, hl with | [_], _ => rfl
  have F_law_at := fun_mk (st := sAt) l_law_at c_law_at k_law_at
  have b_law_at := F_law_at.binds (ps := ["_law_script", "_law_k"]) fun _ _ _ _ _ _ us hl => match us, hl with | [_, _], _ => rfl
  have F_law_next := fun_mk (st := sLNx) l_law_next c_law_next k_law_next
  have b_law_next := F_law_next.binds (ps := ["_law_many", "_law_trail"]) fun _ _ _ _ _ _ us hl => match us, hl with | [_, _], _ => rfl
  have F_law_trail_of := fun_mk (st := sTOf) l_law_trail_of c_law_trail_of k_law_trail_of
  have b_law_trail_of := F_law_trail_of.binds (ps := ["_law_many", "_law_cells"]) fun _ _ _ _ _ _ us hl => match us, hl with | [_, _], _ => rfl
  have F_law_told := fun_mk (st := sTold) l_law_told c_law_told k_law_told
  have b_law_told := F_law_told.binds (ps := ["_law_many", "_law_lines"]) fun _ _ _ _ _ _ us hl => match us, hl with | [_, _], _ => rfl
  have F_law_under_base := fun_mk (st := sUB) l_law_under_base c_law_under_base k_law_under_base
  have b_law_under_base := F_law_under_base.binds (ps := ["_law_many", "_law_lines"]) fun _ _ _ _ _ _ us hl => match us, hl with | [_, _], _ => rfl
  have F_law := fun_mk (st := sLaw) l_law c_law k_law
  have b_law := F_law.binds (ps := ["_law_script"]) fun _ _ _ _ _ _ us hl => match us, hl with | [_], _ => rfl
  refine ⟨PySem.W.fnOf "law" "law" (defArgs sLaw) (defBody sLaw) (defScope sLaw) .none kV18 dc18 pm18 an18 cd18 ct18, fun s v => .of_eq rfl, fun base kb nb => ?_⟩
  have Z_TrailError : XCls K C_TrailError := ⟨xga_TrailError, xgn_TrailError, xcl_TrailError, x_hn, x_tk, xmo_TrailError, xmb_TrailError, xty_TrailError⟩
  have g_TrailError := PySem.W.mg_of X G aC_TrailError
  have Z_NoDesk : XCls K C_NoDesk := ⟨xga_NoDesk, xgn_NoDesk, xcl_NoDesk, x_hn, x_tk, xmo_NoDesk, xmb_NoDesk, xty_NoDesk⟩
  have g_NoDesk := PySem.W.mg_of X G aC_NoDesk
  have Z_NoWork : XCls K C_NoWork := ⟨xga_NoWork, xgn_NoWork, xcl_NoWork, x_hn, x_tk, xmo_NoWork, xmb_NoWork, xty_NoWork⟩
  have g_NoWork := PySem.W.mg_of X G aC_NoWork
  have Z_NoTrail : XCls K C_NoTrail := ⟨xga_NoTrail, xgn_NoTrail, xcl_NoTrail, x_hn, x_tk, xmo_NoTrail, xmb_NoTrail, xty_NoTrail⟩
  have g_NoTrail := PySem.W.mg_of X G aC_NoTrail
  have Z_NoLine : XCls K C_NoLine := ⟨xga_NoLine, xgn_NoLine, xcl_NoLine, x_hn, x_tk, xmo_NoLine, xmb_NoLine, xty_NoLine⟩
  have g_NoLine := PySem.W.mg_of X G aC_NoLine
  have g_WD := PySem.W.mg_of X G aWD
  have g_FG := PySem.W.mg_of X G aFG
  have g_FW := PySem.W.mg_of X G aFW
  have W : Words K FW := ⟨w_d, w_u, w_e⟩
  have G_do_or_done : FnOk l.prog w K mg base CX0 _ f_do_or_done _ _ _ := (ok_do F_do_or_done)
  have D_do_or_done : Df l.prog w K mg base CX0 _ "do_or_done" _ _ := ⟨⟨f_do_or_done, _, PySem.W.mg_of X G a_do_or_done, k_do_or_done, b_do_or_done, G_do_or_done⟩⟩
  have G_undo_or_undone : FnOk l.prog w K mg base CX0 _ f_undo_or_undone _ _ _ := (ok_un F_undo_or_undone)
  have D_undo_or_undone : Df l.prog w K mg base CX0 _ "undo_or_undone" _ _ := ⟨⟨f_undo_or_undone, _, PySem.W.mg_of X G a_undo_or_undone, k_undo_or_undone, b_undo_or_undone, G_undo_or_undone⟩⟩
  have G_next_behind : FnOk l.prog w K mg base CX0 _ f_next_behind _ _ _ := (ok_beh F_next_behind D_do_or_done D_undo_or_undone)
  have D_next_behind : Df l.prog w K mg base CX0 _ "next_behind" _ _ := ⟨⟨f_next_behind, _, PySem.W.mg_of X G a_next_behind, k_next_behind, b_next_behind, G_next_behind⟩⟩
  have G_next_of : FnOk l.prog w K mg base CX0 _ f_next_of _ _ _ := (ok_nx F_next_of D_do_or_done D_next_behind)
  have D_next_of : Df l.prog w K mg base CX0 _ "next_of" _ _ := ⟨⟨f_next_of, _, PySem.W.mg_of X G a_next_of, k_next_of, b_next_of, G_next_of⟩⟩
  have G_can_stand : FnOk l.prog w K mg base CX0 _ f_can_stand _ _ _ := (ok_can F_can_stand g_FW W)
  have D_can_stand : Df l.prog w K mg base CX0 _ "can_stand" _ _ := ⟨⟨f_can_stand, _, PySem.W.mg_of X G a_can_stand, k_can_stand, b_can_stand, G_can_stand⟩⟩
  have G_check_trail : FnOk l.prog w K mg base (CX1 l.prog w) _ f_check_trail _ _ _ := (ok_chk F_check_trail B D_next_of D_next_behind D_can_stand g_NoTrail q_NoTrail)
  have D_check_trail : Df l.prog w K mg base (CX1 l.prog w) _ "check_trail" _ _ := ⟨⟨f_check_trail, _, PySem.W.mg_of X G a_check_trail, k_check_trail, b_check_trail, G_check_trail⟩⟩
  have G_shown : FnOk l.prog w K mg base CX0 _ f_shown _ _ _ := (ok_shown F_shown)
  have D_shown : Df l.prog w K mg base CX0 _ "shown" _ _ := ⟨⟨f_shown, _, PySem.W.mg_of X G a_shown, k_shown, b_shown, G_shown⟩⟩
  have G_is_number : FnOk l.prog w K mg base CX0 _ f_is_number _ _ _ := (ok_isn F_is_number g_FG)
  have D_is_number : Df l.prog w K mg base CX0 _ "is_number" _ _ := ⟨⟨f_is_number, _, PySem.W.mg_of X G a_is_number, k_is_number, b_is_number, G_is_number⟩⟩
  have G_number_of : FnOk l.prog w K mg base CX0 _ f_number_of _ _ _ := (ok_num F_number_of g_FG)
  have D_number_of : Df l.prog w K mg base CX0 _ "number_of" _ _ := ⟨⟨f_number_of, _, PySem.W.mg_of X G a_number_of, k_number_of, b_number_of, G_number_of⟩⟩
  have G_entry_of : FnOk l.prog w K mg base (CX1 l.prog w) _ f_entry_of _ _ _ := (ok_ent F_entry_of g_WD hWD D_is_number D_number_of g_NoLine q_NoLine)
  have D_entry_of : Df l.prog w K mg base (CX1 l.prog w) _ "entry_of" _ _ := ⟨⟨f_entry_of, _, PySem.W.mg_of X G a_entry_of, k_entry_of, b_entry_of, G_entry_of⟩⟩
  have G_read : FnOk l.prog w K mg base (CX1 l.prog w) _ f_read _ _ _ := (ok_read F_read D_entry_of D_check_trail)
  have D_read : Df l.prog w K mg base (CX1 l.prog w) _ "read" _ _ := ⟨⟨f_read, _, PySem.W.mg_of X G a_read, k_read, b_read, G_read⟩⟩
  have D0_read : Df l.prog w K mg base CX0 _ "read" _ _ := ⟨⟨f_read, _, PySem.W.mg_of X G a_read, k_read, b_read, calm_read G_read⟩⟩
  have G_law_so : FnOk l.prog w K mg base CX0 _ f_law_so _ _ _ := (ok_so F_law_so B (⟨⟨f_law_so, _, PySem.W.mg_of X G a_law_so, k_law_so, b_law_so, ok_so1 F_law_so B⟩⟩))
  have D_law_so : Df l.prog w K mg base CX0 _ "_law_so" _ _ := ⟨⟨f_law_so, _, PySem.W.mg_of X G a_law_so, k_law_so, b_law_so, G_law_so⟩⟩
  have G_law_whole : FnOk l.prog w K mg base CX0 _ f_law_whole _ _ _ := (ok_whole F_law_whole B)
  have D_law_whole : Df l.prog w K mg base CX0 _ "_law_whole" _ _ := ⟨⟨f_law_whole, _, PySem.W.mg_of X G a_law_whole, k_law_whole, b_law_whole, G_law_whole⟩⟩
  have G_law_at : FnOk l.prog w K mg base CX0 _ f_law_at _ _ _ := (ok_at F_law_at B)
  have D_law_at : Df l.prog w K mg base CX0 _ "_law_at" _ _ := ⟨⟨f_law_at, _, PySem.W.mg_of X G a_law_at, k_law_at, b_law_at, G_law_at⟩⟩
  have G_law_next : FnOk l.prog w K mg base CX0 _ f_law_next _ _ _ := (ok_lnx F_law_next B)
  have D_law_next : Df l.prog w K mg base CX0 _ "_law_next" _ _ := ⟨⟨f_law_next, _, PySem.W.mg_of X G a_law_next, k_law_next, b_law_next, G_law_next⟩⟩
  have G_law_trail_of : FnOk l.prog w K mg base CX0 _ f_law_trail_of _ _ _ := (ok_tof F_law_trail_of D_law_next)
  have D_law_trail_of : Df l.prog w K mg base CX0 _ "_law_trail_of" _ _ := ⟨⟨f_law_trail_of, _, PySem.W.mg_of X G a_law_trail_of, k_law_trail_of, b_law_trail_of, G_law_trail_of⟩⟩
  have G_law_told : FnOk l.prog w K mg base (CX1 l.prog w) _ f_law_told _ _ _ := (ok_told F_law_told D_read g_NoLine Z_NoLine g_NoTrail Z_NoTrail m_L m_TL m_self)
  have D_law_told : Df l.prog w K mg base (CX1 l.prog w) _ "_law_told" _ _ := ⟨⟨f_law_told, _, PySem.W.mg_of X G a_law_told, k_law_told, b_law_told, G_law_told⟩⟩
  have D0_law_told : Df l.prog w K mg base CX0 _ "_law_told" _ _ := ⟨⟨f_law_told, _, PySem.W.mg_of X G a_law_told, k_law_told, b_law_told, calm_told G_law_told⟩⟩
  have G_law_under_base : FnOk l.prog w K mg base (CX1 l.prog w) _ f_law_under_base _ _ _ := (ok_ub F_law_under_base B D_read g_NoTrail Z_NoTrail g_TrailError Z_TrailError g_NoDesk g_NoWork g_NoLine m_base (isx_ref Z_NoDesk s_NoDesk n_NoDesk) (isx_ref Z_NoWork s_NoWork n_NoWork) (isx_ref Z_NoLine s_NoLine n_NoLine) (isx_ty (by decide +kernel) s_V))
  have D_law_under_base : Df l.prog w K mg base (CX1 l.prog w) _ "_law_under_base" _ _ := ⟨⟨f_law_under_base, _, PySem.W.mg_of X G a_law_under_base, k_law_under_base, b_law_under_base, G_law_under_base⟩⟩
  have D0_law_under_base : Df l.prog w K mg base CX0 _ "_law_under_base" _ _ := ⟨⟨f_law_under_base, _, PySem.W.mg_of X G a_law_under_base, k_law_under_base, b_law_under_base, calm_ub G_law_under_base⟩⟩
  exact (ok_law F_law B D_law_at D_law_trail_of D_law_so D_law_whole D_shown D0_read D0_law_told D0_law_under_base)
theorem walk {l : PySem.W.OpenLaw} {q : Program} {loose : List Str} {XP : (Str → Option Value) → Heap → Prop} {YP : World → Heap → Prop} {d : DefRec} {K : Params → PySem.W.Frag} (hn : l.most = some 63) (hdf : d.params.defaults = [])
    (hY : ∀ (w : World) (h : Heap), YP w h → (K w.params).In h)
    (F : ∀ (w : World) (mg : Str → Option Value) (fa : Addr) (h : Heap), (K w.params).In h → h.Ns mainGlobals mg → mg d.name = some (.ref fa) →
      ∃ fd : FuncData, (∀ (s : Shared) (u : Value), BindsTo s fd ⟨[u], []⟩ [("_law_script", u)]) ∧ ∀ base : Heap, (K w.params).In base → base.Ns mainGlobals mg → FnOk l.prog w (K w.params) mg base CX0 7 fa fd ["_law_script"] (spLaw (K w.params))) :
    PySem.W.WalkO q loose XP YP l.row.toRowW d [] (fun f vs => PySem.call f vs) :=
  L2.walk_of (n := 63) (k := 7) (x := "_law_script") (CX := fun _ => CX0) (sp := fun w => spLaw (K w.params)) hn (by decide) hdf ⟨rfl, by decide, by decide⟩ hY F (fun _ _ a ns hl hO hS => ⟨a, ns, rfl, Scr.of hO hS, hl, fun _ => rfl⟩) (fun _ _ _ _ _ z => z)
end K12
open PySem PySem.W PyProof.Rows
set_option maxRecDepth 100000 in
set_option maxHeartbeats 0 in
theorem PySem.Challenge.cw_trailbook_k12_trails_on_lines_holds : PySem.Challenge.rw_trailbook_k12_trails_on_lines.Holds := by
  w_on; o_law; k_head; (case hw => w_witness2)
  k_fill
  refine K12.walk (l := PySem.Challenge.rw_trailbook_k12_trails_on_lines) rfl rfl (fun w h Y => PySem.W.kIn_of Y) ?F
  case F =>
    intro w mg fa h KX G hmg
    refine' K12.all_mk KX G hmg ?aC_TrailError ?aC_NoDesk ?aC_NoWork ?aC_NoTrail ?aC_NoLine ?aWD ?aFG ?hWD ?aFW ?x_hn ?x_tk ?xga_TrailError ?xgn_TrailError ?xcl_TrailError ?xmo_TrailError ?xmb_TrailError ?xty_TrailError ?xga_NoDesk ?xgn_NoDesk ?xcl_NoDesk ?xmo_NoDesk ?xmb_NoDesk ?xty_NoDesk ?xga_NoWork ?xgn_NoWork ?xcl_NoWork ?xmo_NoWork ?xmb_NoWork ?xty_NoWork ?xga_NoTrail ?xgn_NoTrail ?xcl_NoTrail ?xmo_NoTrail ?xmb_NoTrail ?xty_NoTrail ?xga_NoLine ?xgn_NoLine ?xcl_NoLine ?xmo_NoLine ?xmb_NoLine ?xty_NoLine ?m_self ?m_L ?m_TL ?m_base ?s_NoDesk ?n_NoDesk ?s_NoWork ?n_NoWork ?s_NoLine ?n_NoLine ?s_V ?q_NoTrail ?q_NoLine ?w_d ?w_u ?w_e ?a_do_or_done ?l_do_or_done ?c_do_or_done ?k_do_or_done ?a_undo_or_undone ?l_undo_or_undone ?c_undo_or_undone ?k_undo_or_undone ?a_next_behind ?l_next_behind ?c_next_behind ?k_next_behind ?a_next_of ?l_next_of ?c_next_of ?k_next_of ?a_can_stand ?l_can_stand ?c_can_stand ?k_can_stand ?a_check_trail ?l_check_trail ?c_check_trail ?k_check_trail ?a_shown ?l_shown ?c_shown ?k_shown ?a_is_number ?l_is_number ?c_is_number ?k_is_number ?a_number_of ?l_number_of ?c_number_of ?k_number_of ?a_entry_of ?l_entry_of ?c_entry_of ?k_entry_of ?a_read ?l_read ?c_read ?k_read ?a_law_so ?l_law_so ?c_law_so ?k_law_so ?a_law_whole ?l_law_whole ?c_law_whole ?k_law_whole ?a_law_at ?l_law_at ?c_law_at ?k_law_at ?a_law_next ?l_law_next ?c_law_next ?k_law_next ?a_law_trail_of ?l_law_trail_of ?c_law_trail_of ?k_law_trail_of ?a_law_told ?l_law_told ?c_law_told ?k_law_told ?a_law_under_base ?l_law_under_base ?c_law_under_base ?k_law_under_base ?a_law ?l_law ?c_law ?k_law ?z_len ?z_isinstance ?z_dict ?z_list_ ?z_tuple ?z_int_ ?z_bool ?z_str ?z_range ?z_enumerate ?z_ValueError
    (case aC_TrailError => k_is)
    (case aC_NoDesk => k_is)
    (case aC_NoWork => k_is)
    (case aC_NoTrail => k_is)
    (case aC_NoLine => k_is)
    (case aWD => k_is)
    (case aFG => k_is)
    (case hWD => kernel_rfl)
    (case aFW => k_is)
    (case x_hn => k_is)
    (case x_tk => k_is)
    (case xga_TrailError => k_is)
    (case xgn_TrailError => k_is)
    (case xcl_TrailError => k_is)
    (case xmo_TrailError => k_is)
    (case xmb_TrailError => k_is)
    (case xty_TrailError => k_is)
    (case xga_NoDesk => k_is)
    (case xgn_NoDesk => k_is)
    (case xcl_NoDesk => k_is)
    (case xmo_NoDesk => k_is)
    (case xmb_NoDesk => k_is)
    (case xty_NoDesk => k_is)
    (case xga_NoWork => k_is)
    (case xgn_NoWork => k_is)
    (case xcl_NoWork => k_is)
    (case xmo_NoWork => k_is)
    (case xmb_NoWork => k_is)
    (case xty_NoWork => k_is)
    (case xga_NoTrail => k_is)
    (case xgn_NoTrail => k_is)
    (case xcl_NoTrail => k_is)
    (case xmo_NoTrail => k_is)
    (case xmb_NoTrail => k_is)
    (case xty_NoTrail => k_is)
    (case xga_NoLine => k_is)
    (case xgn_NoLine => k_is)
    (case xcl_NoLine => k_is)
    (case xmo_NoLine => k_is)
    (case xmb_NoLine => k_is)
    (case xty_NoLine => k_is)
    (case m_self => k_is)
    (case m_L => k_is)
    (case m_TL => k_is)
    (case m_base => k_is)
    (case s_NoDesk => k_is)
    (case n_NoDesk => decide)
    (case s_NoWork => k_is)
    (case n_NoWork => decide)
    (case s_NoLine => k_is)
    (case n_NoLine => decide)
    (case s_V => k_is)
    (case q_NoTrail => kernel_rfl)
    (case q_NoLine => kernel_rfl)
    (case w_d => kernel_rfl)
    (case w_u => kernel_rfl)
    (case w_e => kernel_rfl)
    (case a_do_or_done => k_is)
    (case l_do_or_done => k_is)
    (case c_do_or_done => k_is)
    (case k_do_or_done => k_is)
    (case a_undo_or_undone => k_is)
    (case l_undo_or_undone => k_is)
    (case c_undo_or_undone => k_is)
    (case k_undo_or_undone => k_is)
    (case a_next_behind => k_is)
    (case l_next_behind => k_is)
    (case c_next_behind => k_is)
    (case k_next_behind => k_is)
    (case a_next_of => k_is)
    (case l_next_of => k_is)
    (case c_next_of => k_is)
    (case k_next_of => k_is)
    (case a_can_stand => k_is)
    (case l_can_stand => k_is)
    (case c_can_stand => k_is)
    (case k_can_stand => k_is)
    (case a_check_trail => k_is)
    (case l_check_trail => k_is)
    (case c_check_trail => k_is)
    (case k_check_trail => k_is)
    (case a_shown => k_is)
    (case l_shown => k_is)
    (case c_shown => k_is)
    (case k_shown => k_is)
    (case a_is_number => k_is)
    (case l_is_number => k_is)
    (case c_is_number => k_is)
    (case k_is_number => k_is)
    (case a_number_of => k_is)
    (case l_number_of => k_is)
    (case c_number_of => k_is)
    (case k_number_of => k_is)
    (case a_entry_of => k_is)
    (case l_entry_of => k_is)
    (case c_entry_of => k_is)
    (case k_entry_of => k_is)
    (case a_read => k_is)
    (case l_read => k_is)
    (case c_read => k_is)
    (case k_read => k_is)
    (case a_law_so => k_is)
    (case l_law_so => k_is)
    (case c_law_so => k_is)
    (case k_law_so => k_is)
    (case a_law_whole => k_is)
    (case l_law_whole => k_is)
    (case c_law_whole => k_is)
    (case k_law_whole => k_is)
    (case a_law_at => k_is)
    (case l_law_at => k_is)
    (case c_law_at => k_is)
    (case k_law_at => k_is)
    (case a_law_next => k_is)
    (case l_law_next => k_is)
    (case c_law_next => k_is)
    (case k_law_next => k_is)
    (case a_law_trail_of => k_is)
    (case l_law_trail_of => k_is)
    (case c_law_trail_of => k_is)
    (case k_law_trail_of => k_is)
    (case a_law_told => k_is)
    (case l_law_told => k_is)
    (case c_law_told => k_is)
    (case k_law_told => k_is)
    (case a_law_under_base => k_is)
    (case l_law_under_base => k_is)
    (case c_law_under_base => k_is)
    (case k_law_under_base => k_is)
    (case a_law => k_is)
    (case l_law => k_is)
    (case c_law => k_is)
    (case k_law => k_is)
    (case z_len => k_is)
    (case z_isinstance => k_is)
    (case z_dict => k_is)
    (case z_list_ => k_is)
    (case z_tuple => k_is)
    (case z_int_ => k_is)
    (case z_bool => k_is)
    (case z_str => k_is)
    (case z_range => k_is)
    (case z_enumerate => k_is)
    (case z_ValueError => k_is)


