import PyProof.Rows.All
import Wide.All
import OpenK.AllK
import Wide.FinOn
import Lean
import PyProof.EqAt
import PyProof.EqKinds
import PyProof.TupleCall
import PySem.Challenge.RW_trailbook_k08_whole_late_ones
set_option Elab.async false
set_option linter.all false
set_option maxRecDepth 100000
set_option maxHeartbeats 4000000
namespace L2
open PySem PySem.Spec PyProof.Rows
abbrev Key := Sum Int Str
def q8c : Key → Value → Bool
 | .inl k, v => Value.isInt k v
 | .inr x, v => Value.isStrOf x v
def keyH (w : World) : Key → Int
 | .inl k => hashInt k
 | .inr x => hashStr w x
theorem q14 : ∀ {k : Key} {v : Value}, q8c k v = true → (∃ i t, k = Sum.inl i ∧ v = Value.int i t) ∨ (∃ x t, k = Sum.inr x ∧ v = Value.str x t)
 | .inl i, v, h => by
  obtain ⟨t, e⟩ := Value.isInt_shape (k := i) (v := v) h
  exact .inl ⟨i, t, rfl, e⟩
 | .inr x, v, h => by
  obtain ⟨t, e⟩ := Value.isStrOf_shape (x := x) (v := v) h
  exact .inr ⟨x, t, rfl, e⟩
theorem qcv (i : Int) (t : Tok) : q8c (.inl i) (.int i t) = true := by simp [q8c, Value.isInt]
theorem qcd (x : Str) (t : Tok) : q8c (.inr x) (.str x t) = true := by simp [q8c, Value.isStrOf]
theorem qio (a b : Int) : decide ((Sum.inl a : Key) = Sum.inl b) = (a == b) := by
 by_cases e : a = b
 ·subst e; simp
 ·have h : ¬ (Sum.inl a : Key) = Sum.inl b := fun q => e (Sum.inl.inj q)
  rw [decide_eq_false h]
  exact (beq_eq_false_iff_ne.mpr e).symm
theorem qjb (a b : Str) : decide ((Sum.inr a : Key) = Sum.inr b) = decide (a = b) := by
 by_cases e : a = b
 ·subst e; simp
 ·have h : ¬ (Sum.inr a : Key) = Sum.inr b := fun q => e (Sum.inr.inj q)
  rw [decide_eq_false h, decide_eq_false e]
theorem qjh (a : Int) (b : Str) : decide ((Sum.inl a : Key) = Sum.inr b) = false := decide_eq_false (fun q => nomatch q)
theorem qjq (a : Str) (b : Int) : decide ((Sum.inr a : Key) = Sum.inl b) = false := decide_eq_false (fun q => nomatch q)
def q11 (prog : Program) (w : World) : PySem.KeyKind prog w Key where
 is := q8c
 hash := keyH w
 inj := fun v a b ha hb => by
  rcases q14 ha with ⟨i, t, rfl, rfl⟩ | ⟨x, t, rfl, rfl⟩
  ·rcases q14 hb with ⟨j, u, rfl, e⟩ | ⟨y, u, rfl, e⟩
   ·injection e with e1 _; rw [e1]
   ·exact nomatch e
  ·rcases q14 hb with ⟨j, u, rfl, e⟩ | ⟨y, u, rfl, e⟩
   ·exact nomatch e
   ·injection e with e1 _; rw [e1]
 byValue := fun k v h => by
  rcases q14 h with ⟨i, t, rfl, rfl⟩ | ⟨x, t, rfl, rfl⟩ <;> rfl
 pyHash := fun hv h => by
  rcases q14 hv with ⟨i, t, rfl, rfl⟩ | ⟨x, t, rfl, rfl⟩
  ·exact wpAny_pyHash_int h
  ·exact wpAny_pyHash_str h
 eqBool := fun hu hv h => by
  rcases q14 hu with ⟨i, t, rfl, rfl⟩ | ⟨x, t, rfl, rfl⟩
  ·rcases q14 hv with ⟨j, u, rfl, rfl⟩ | ⟨y, u, rfl, rfl⟩
   ·rw [qio] at h; exact wpAny_eqBool_int h
   ·rw [qjh] at h; exact SeqAt.EqAt.int_str i t y u _ _ _ _ h
  ·rcases q14 hv with ⟨j, u, rfl, rfl⟩ | ⟨y, u, rfl, rfl⟩
   ·rw [qjq] at h; exact SeqAt.EqAt.str_int x t j u _ _ _ _ h
   ·rw [qjb] at h; exact wpAny_eqBool_str h
 «strs» := fun k x t v h => by
  rcases q14 h with ⟨i, u, rfl, e⟩ | ⟨y, u, rfl, e⟩
  ·exact nomatch e
  ·injection e with e1 _
   subst e1
   cases v <;> rfl
theorem q8f (prog : Program) (w : World) (i : Int) (t : Tok) : (q11 prog w).is (.inl i) (.int i t) = true := qcv i t
theorem q87 (prog : Program) (w : World) (x : Str) (t : Tok) : (q11 prog w).is (.inr x) (.str x t) = true := qcd x t
end L2
namespace L2
open PySem PySem.Spec PyProof.Rows
inductive V where
 | non | bl (b : Bool) | int (i : Int) | str (x : Str) | byt (b : Array UInt8) | flt (b : UInt64) | ref (a : Addr) | ty (n : String)
 deriving DecidableEq
def RelV : V → Value → Prop
 | .non, u => u = Value.none
 | .bl b, u => u = Value.bool b
 | .int i, u => ∃ t, u = Value.int i t
 | .str x, u => ∃ t, u = Value.str x t
 | .byt b, u => ∃ t, u = Value.bytes b t
 | .flt b, u => ∃ t, u = Value.float b t
 | .ref a, u => u = Value.ref a
 | .ty n, u => u = Value.type n
abbrev Vals : List V → List Value → Prop := Paired RelV
theorem Vals.length {xs : List V} {us : List Value} (r : Vals xs us) : xs.length = us.length := Paired.length r
theorem Vals.get : ∀ {xs : List V} {us : List Value} {i : Nat} {x : V}, Vals xs us → xs[i]? = some x → ∃ u, us[i]? = some u ∧ RelV x u
 | _, _, _, _, .nil, e => by simp at e
 | _, _, 0, _, .cons r _, e => by simp at e; subst e; exact ⟨_, rfl, r⟩
 | _, _, i + 1, x, .cons _ t, e => by
  obtain ⟨u, h1, h2⟩ := Vals.get (i := i) (x := x) t (by simpa using e)
  exact ⟨u, by simpa using h1, h2⟩
theorem Vals.append : ∀ {xs ys : List V} {us ws : List Value}, Vals xs us → Vals ys ws → Vals (xs ++ ys) (us ++ ws)
 | _, _, _, _, .nil, s => s
 | _, _, _, _, .cons r t, s => .cons r (Vals.append t s)
theorem Vals.take : ∀ {xs : List V} {us : List Value} (n : Nat), Vals xs us → Vals (xs.take n) (us.take n)
 | _, _, 0, _ => .nil
 | _, _, _ + 1, .nil => .nil
 | _, _, n + 1, .cons r t => .cons r (Vals.take n t)
theorem Vals.drop : ∀ {xs : List V} {us : List Value} (n : Nat), Vals xs us → Vals (xs.drop n) (us.drop n)
 | _, _, 0, r => r
 | _, _, _ + 1, .nil => .nil
 | _, _, n + 1, .cons _ t => Vals.drop n t
def RelO : Option V → Option Value → Prop
 | some v, some u => RelV v u
 | none, none => True
 | _, _ => False
def KV {κ : Type} : List (κ × V) → List (κ × Value) → Prop := Paired fun (p : κ × V) (q : κ × Value) => p.1 = q.1 ∧ RelV p.2 q.2
def kV : Key → V
 | .inl i => .int i
 | .inr x => .str x
inductive HO where
  | lst (xs : List V)
  | tup (xs : List V)
  | dK (kvs : List (Key × V)) | dT (kvs : List (List Key × V))
  | set (S : Int → Bool) (n : Nat)
  | ins (C dx : Addr) (fs : List (Str × V))
  | own (x : Addr)
  | xd (fs : List (Str × V))
  | met (f x : Addr)
  | rng (lo hi : Int)
  | frz (o : Obj) (u : HO)
  | tbl (ps : Array Value)
  | ext (φ : Heap → Prop)
abbrev Hp := Addr → Option HO
def upd (H : Hp) (a : Addr) (o : HO) : Hp := fun b => if b = a then some o else H b
theorem q05 {H : Hp} {a : Addr} {o : HO} : upd H a o a = some o := by unfold upd; rw [if_pos rfl]
theorem q08 {H : Hp} {a b : Addr} {o : HO} (h : b ≠ a) : upd H a o b = H b := by unfold upd; rw [if_neg h]
theorem q8o {H : Hp} {a : Addr} {o u : HO} : upd (upd H a o) a u = upd H a u := by
 funext b; unfold upd; split <;> rfl
theorem q3k {H : Hp} {a b : Addr} {o u : HO} (h : H a = some o) (h' : H b = some u) (d : o ≠ u) : a ≠ b := by
 intro e; subst e; rw [h] at h'; exact d (Option.some.inj h')
theorem q09 {H : Hp} {a b : Addr} {o : HO} (h : H a = some o) (h' : H b = none) : a ≠ b := by
 intro e; subst e; rw [h] at h'; cases h'
section
variable (P : Program) (w : World)
def q1h (H : Hp) (h : Heap) (a : Addr) : HO → Prop
 | .lst xs => xs.length ≤ sizeLine ∧ ∃ (its : List Value) (n : Nat), Vals xs its ∧ h.get? a = some { cls := .type "list", data := .seq its.toArray n }
 | .tup xs => xs.length ≤ sizeLine ∧ ∃ its : List Value, Vals xs its ∧ IsTup h a its.toArray
 | .dK kvs => kvs.length ≤ sizeLine ∧ (a == sysModules) = false ∧ ∃ vs, KV kvs vs ∧ h.DictOf (q11 P w) a vs
 | .dT kvs => kvs.length ≤ sizeLine ∧ (a == sysModules) = false ∧ ∃ xs : List (List Key × Addr × Value),
   Paired (fun (p : List Key × V) (q : List Key × Addr × Value) => p.1 = q.1 ∧ H q.2.1 = some (.tup (p.1.map kV)) ∧ RelV p.2 q.2.2) kvs xs ∧
   ∃ o es ep, h.get? a = some o ∧ o.ExactDict ∧ o.data = .dict es ep ∧ es.toList = xs.map (entryOfKey (tupleKind (q11 P w))) ∧ (xs.map (·.1)).Nodup
 | .set S n => h.SetOf (intKind P w) a S n
 | .ins C dx fs => H dx = some (.own a) ∧ fs.length ≤ 1000 ∧ dx ≠ a ∧ h.get? a = some (PySem.W.instObj C dx) ∧
   ∃ mA, h.Ns1 dx mA ∧ (∀ f, RelO (fs.lookup f) (mA f)) ∧ PySem.Within mA (fs.map (·.1))
 | .own _ => ∃ o, h.get? a = some o
 | .xd fs => ∃ mA, h.Ns1 a mA ∧ ∀ f, RelO (fs.lookup f) (mA f)
 | .rng lo hi => ∃ t u v, h.get? a = some { cls := .type "range", data := .fields #[.int lo t, .int hi u, .int 1 v] }
 | .frz o u => h.get? a = some o ∧ q1h H h a u
 | .tbl ps => h.get? a = some { cls := .none, data := .fields ps }
 | .met f x => h.get? a = some (PySem.W.methodObj (.ref f) (.ref x))
 | .ext φ => φ h ∧ (∃ o, h.get? a = some o) ∧ ∀ h1 h2 : Heap, φ h1 → (∀ o, h1.get? a = some o → h2.get? a = some o) → φ h2
def HOk (H : Hp) (h : Heap) : Prop := ∀ a o, H a = some o → q1h P w H h a o
end
section
variable {P : Program} {w : World} {H H' : Hp} {h h' : Heap} {a : Addr} {o : HO}
theorem q1h.lt (x : q1h P w H h a o) : a < h.objs.size := by
 cases o with
 | lst xs => obtain ⟨_, _, _, _, e⟩ := x; exact Heap.lt_size e
 | tup xs => obtain ⟨_, _, _, p⟩ := x; exact p.lt
 | dK kvs => obtain ⟨_, _, _, _, o, _, _, e, _⟩ := x; exact Heap.lt_size e
 | dT kvs => obtain ⟨_, _, _, _, o, _, _, e, _⟩ := x; exact Heap.lt_size e
 | set S n => obtain ⟨o, _, _, _, e, _⟩ := x; exact Heap.lt_size e
 | ins C dx fs => obtain ⟨_, _, _, e, _⟩ := x; exact Heap.lt_size e
 | own y => obtain ⟨_, e⟩ := x; exact Heap.lt_size e
 | xd fs => obtain ⟨_, ⟨_, _, _, e, _⟩, _⟩ := x; exact Heap.lt_size e
 | rng lo hi => obtain ⟨_, _, _, e⟩ := x; exact Heap.lt_size e
 | frz ob u => obtain ⟨e, _⟩ := x; exact Heap.lt_size e
 | tbl ps => exact Heap.lt_size (show h.get? a = some _ from x)
 | met f y => exact Heap.lt_size (show h.get? a = some _ from x)
 | ext φ => obtain ⟨_, ⟨_, e⟩, _⟩ := x; exact Heap.lt_size e
theorem Paired.mapP {α β : Type} {F G : α → β → Prop} : ∀ {l₁ : List α} {l₂ : List β}, Paired F l₁ l₂ → (∀ a b, F a b → G a b) → Paired G l₁ l₂
 | _, _, .nil, _ => .nil
 | _, _, .cons r t, f => .cons (f _ _ r) (Paired.mapP t f)
theorem q1h.stay (x : q1h P w H h a o) (k : ∀ b u, (b = a ∨ H b = some (.own a)) → h.get? b = some u → h'.get? b = some u)
  (ho : ∀ b, H b = some (.own a) → H' b = some (.own a)) (ht : ∀ b xs, H b = some (.tup xs) → H' b = some (.tup xs)) : q1h P w H' h' a o := by
 induction o with
 | lst xs => obtain ⟨z, its, n, r, e⟩ := x; exact ⟨z, its, n, r, k _ _ (.inl rfl) e⟩
 | tup xs => obtain ⟨z, its, r, ob, e, c⟩ := x; exact ⟨z, its, r, ob, k _ _ (.inl rfl) e, c⟩
 | dK kvs => obtain ⟨z, y, vs, r, ob, es, ep, e, c⟩ := x; exact ⟨z, y, vs, r, ob, es, ep, k _ _ (.inl rfl) e, c⟩
 | dT kvs =>
  obtain ⟨z, y, xs, r, ob, es, ep, e, c⟩ := x
  exact ⟨z, y, xs, Paired.mapP r fun p q z => ⟨z.1, ht _ _ z.2.1, z.2.2⟩, ob, es, ep, k _ _ (.inl rfl) e, c⟩
 | set S n => obtain ⟨ob, es, ep, t, e, c⟩ := x; exact ⟨ob, es, ep, t, k _ _ (.inl rfl) e, c⟩
 | ins C dx fs =>
  obtain ⟨d, z, ne, e, mA, ⟨od, es, ep, e2, c⟩, r⟩ := x
  exact ⟨ho _ d, z, ne, k _ _ (.inl rfl) e, mA, ⟨od, es, ep, k _ _ (.inr d) e2, c⟩, r⟩
 | own y => obtain ⟨ob, e⟩ := x; exact ⟨ob, k _ _ (.inl rfl) e⟩
 | xd fs => obtain ⟨mA, ⟨od, es, ep, e, c⟩, r⟩ := x; exact ⟨mA, ⟨od, es, ep, k _ _ (.inl rfl) e, c⟩, r⟩
 | rng lo hi => obtain ⟨t, u, v, e⟩ := x; exact ⟨t, u, v, k _ _ (.inl rfl) e⟩
 | frz ob u ih => obtain ⟨e, q⟩ := x; exact ⟨k _ _ (.inl rfl) e, ih q⟩
 | tbl ps =>
  have e : h.get? a = some { cls := .none, data := .fields ps } := x
  show h'.get? a = some { cls := .none, data := .fields ps }
  exact k a _ (.inl rfl) e
 | met f y =>
  have e : h.get? a = some (PySem.W.methodObj (.ref f) (.ref y)) := x
  show h'.get? a = some (PySem.W.methodObj (.ref f) (.ref y))
  exact k a _ (.inl rfl) e
 | ext φ => obtain ⟨p, ⟨o, e⟩, st⟩ := x; exact ⟨st _ _ p fun o q => k _ _ (.inl rfl) q, ⟨o, k _ _ (.inl rfl) e⟩, st⟩
theorem HOk.lt (x : HOk P w H h) (e : H a = some o) : a < h.objs.size := (x a o e).lt
theorem HOk.fresh (x : HOk P w H h) (e : h.objs.size ≤ a) : H a = none := by
 cases q : H a with
 | none => rfl
 | some u => exact absurd (Nat.lt_of_lt_of_le (x.lt q) e) (Nat.lt_irrefl _)
theorem HOk.kept (x : HOk P w H h) (k : ∀ b u, h.get? b = some u → h'.get? b = some u) : HOk P w H h' := fun a o e =>
 (x a o e).stay (fun b u _ q => k b u q) (fun _ q => q) fun _ _ q => q
theorem HOk.laid (x : HOk P w H h) (k : ∀ b u, h.get? b = some u → h'.get? b = some u) (hp : h.objs.size ≤ a) (new : q1h P w (upd H a o) h' a o) : HOk P w (upd H a o) h' := fun b u e => by
 have hn := x.fresh hp
 by_cases hb : b = a
 ·subst hb; rw [q05] at e; cases e; exact new
 ·rw [q08 hb] at e
  exact (x b u e).stay (fun c v _ q => k c v q) (fun c q => by rw [q08 (q09 q hn)]; exact q) fun c xs q => by rw [q08 (q09 q hn)]; exact q
end
def Rd (H : Hp) (a : Addr) (u : HO) : Prop := H a = some u ∨ ∃ o, H a = some (.frz o u)
theorem Rd.ok {P : Program} {w : World} {H : Hp} {h : Heap} {a : Addr} {u : HO} (r : Rd H a u) (x : HOk P w H h) : q1h P w H h a u := by
 rcases r with r | ⟨o, r⟩
 ·exact x a u r
 ·obtain ⟨_, q⟩ := x a _ r
  exact q
def Mut : Option HO → Prop
 | some (.lst _) => True
 | some (.dK _) => True
 | some (.dT _) => True
 | some (.set _ _) => True
 | some (.ins _ _ _) => True
 | some (.ext _) => True
 | _ => False
section
variable {P : Program} {w : World} {H : Hp} {h h' : Heap} {x e : Addr} {o' : HO}
theorem HOk.write (ok : HOk P w H h) (mu : Mut (H x)) (he : e = x ∨ H e = some (.own x)) (k : ∀ b u, b ≠ e → h.get? b = some u → h'.get? b = some u) (heo : ∃ u, h'.get? e = some u)
  (new : q1h P w (upd H x o') h' x o') : HOk P w (upd H x o') h' := fun b u q => by
 have nown : ∀ c y, H c = some (.own y) → c ≠ x := fun c y r z => by subst z; rw [r] at mu; exact mu
 have ntup : ∀ c xs, H c = some (.tup xs) → c ≠ x := fun c xs r z => by subst z; rw [r] at mu; exact mu
 by_cases hb : b = x
 ·subst hb; rw [q05] at q; cases q; exact new
 ·rw [q08 hb] at q
  by_cases hbe : b = e
  ·have q' : H b = some (.own x) := by
    rcases he with z | z
    ·exact absurd (hbe.trans z) hb
    ·rw [hbe]; exact z
   rw [q] at q'; cases q'
   obtain ⟨v, hv⟩ := heo
   exact ⟨v, by rw [hbe]; exact hv⟩
  ·refine (ok b u q).stay (fun c v hc r => k c v ?_ r) (fun c r => by rw [q08 (nown c b r)]; exact r) fun c xs r => by rw [q08 (ntup c xs r)]; exact r
   rcases hc with rfl | hc
   ·exact hbe
   ·rintro rfl
    rcases he with z | z
    ·exact nown c b hc z
    ·rw [hc] at z; cases z; exact hb rfl
end
structure Un (fs ex : List Addr) (H H' : Hp) (h h' : Heap) : Prop where
 keep : ∀ b o, h.get? b = some o → H b = none → b ∉ fs → b ∉ ex → h'.get? b = some o
 slot : ∀ b o, h.get? b = some o → H b = none → b ∈ fs → b ∉ ex → ∃ sl, h'.get? b = some { o with slots := sl }
 free : ∀ b o, h.get? b = some o → H b = none → b ∉ ex → H' b = none
 there : ∀ b o, h.get? b = some o → b ∉ ex → ∃ o', h'.get? b = some o'
 tups : ∀ b xs, H b = some (.tup xs) → H' b = some (.tup xs)
 frzs : ∀ b o u, H b = some (.frz o u) → H' b = some (.frz o u)
 tbls : ∀ b ps, H b = some (.tbl ps) → ∃ more, H' b = some (.tbl (ps ++ more))
section
variable {fs fs' ex ex' : List Addr} {H H1 H2 : Hp} {h h1 h2 h' : Heap} {a x e : Addr} {o : HO}
theorem Un.any (u : Un fs ex H H1 h h1) {b : Addr} {ob : Obj} (q : h.get? b = some ob) (n : H b = none) (hx : b ∉ ex) : ∃ sl, h1.get? b = some { ob with slots := sl } := by
 by_cases hb : b ∈ fs
 ·exact u.slot b ob q n hb hx
 ·exact ⟨ob.slots, u.keep b ob q n hb hx⟩
theorem Un.kept (k : ∀ b u, h.get? b = some u → h'.get? b = some u) : Un fs ex H H h h' :=
 ⟨fun b ob q _ _ _ => k b ob q, fun b ob q _ _ _ => ⟨ob.slots, k b ob q⟩, fun _ _ _ n _ => n, fun b ob q _ => ⟨ob, k b ob q⟩, fun _ _ q => q, fun _ _ _ q => q, fun _ ps q => ⟨#[], by rw [q]; simp⟩⟩
theorem Un.refl : Un fs ex H H h h := Un.kept fun _ _ q => q
theorem Un.laid (k : ∀ b u, h.get? b = some u → h'.get? b = some u) (hp : h.objs.size ≤ a) (hn : H a = none) : Un fs ex H (upd H a o) h h' where
 keep := fun b u q _ _ _ => k b u q
 slot := fun b u q _ _ _ => ⟨u.slots, k b u q⟩
 free := fun b u q n _ => by rw [q08 (Nat.ne_of_lt (Nat.lt_of_lt_of_le (Heap.lt_size q) hp))]; exact n
 there := fun b u q _ => ⟨u, k b u q⟩
 tups := fun b xs q => by rw [q08 (q09 q hn)]; exact q
 frzs := fun b u xs q => by rw [q08 (q09 q hn)]; exact q
 tbls := fun b ps q => ⟨#[], by rw [q08 (q09 q hn), q]; simp⟩
theorem Un.write (mu : Mut (H x)) (he : e = x ∨ H e = some (.own x)) (k : ∀ b u, b ≠ e → h.get? b = some u → h'.get? b = some u) (heo : ∃ u, h'.get? e = some u) : Un fs ex H (upd H x o) h h' := by
 have hx : ∀ b, H b = none → b ≠ x := fun b n z => by subst z; rw [n] at mu; exact mu
 have hb : ∀ b, H b = none → b ≠ e := fun b n z => by
  subst z
  rcases he with r | r
  ·exact hx b n r
  ·rw [n] at r; cases r
 have hm : ∀ b u, H b = some u → ¬ Mut (some u) → b ≠ x := fun b u q nm z => by subst z; rw [q] at mu; exact nm mu
 refine ⟨fun b u q n _ _ => k b u (hb b n) q, fun b u q n _ _ => ⟨u.slots, k b u (hb b n) q⟩, fun b u q n _ => by rw [q08 (hx b n)]; exact n, fun b u q _ => ?_,
  fun b xs q => by rw [q08 (hm b _ q fun z => z)]; exact q, fun b u xs q => by rw [q08 (hm b _ q fun z => z)]; exact q, fun b ps q => ⟨#[], by rw [q08 (hm b _ q fun z => z), q]; simp⟩⟩
 by_cases hbe : b = e
 ·subst hbe; exact heo
 ·exact ⟨u, k b u hbe q⟩
end
def trk (h : Heap) (H : Hp) : List Addr := (List.range h.objs.size).filter fun a => (H a).isSome
def hidT (h : Heap) (H : Hp) : Heap := PySem.W.hideAll h (trk h H)
theorem qbs (h : Heap) (H : Hp) : (hidT h H).objs.size = h.objs.size := PySem.W.hideAll_size _ _
theorem qdy {h : Heap} {H : Hp} {b : Addr} {o : Obj} (e : h.get? b = some o) (n : H b = none) : (hidT h H).get? b = some o :=
 PySem.W.hideAll_get _ e fun hm => by
  have q : (H b).isSome = true := (List.mem_filter.mp hm).2
  rw [n] at q; simp at q
theorem qgc {h : Heap} {H : Hp} {b : Addr} {o : Obj} (e : (hidT h H).get? b = some o) : h.get? b = some o ∧ H b = none := by
 have e' : h.get? b = some o := PySem.W.of_hideAll (trk h H) e
 refine ⟨e', ?_⟩
 cases q : H b with
 | none => rfl
 | some x =>
  have hm : b ∈ trk h H := List.mem_filter.mpr ⟨List.mem_range.mpr (Heap.lt_size e'), by simp [q]⟩
  have z : (hidT h H).get? b = none := PySem.W.hideAll_none (trk h H) hm
  rw [z] at e; cases e
end L2
namespace L2
open PySem PySem.Spec PyProof.Rows
structure Mod (K : PySem.W.Frag) (mg : Str → Option Value) (base : Heap) : Prop where
 kin : K.In base
 glob : base.Ns mainGlobals mg
 blt : ∃ mb, base.Ns builtinsNs mb ∧ ∀ x : Str, x ≠ "__name__" → mb x = bootBuiltins x
 nolimit : base.NoLimit
structure Cx where
 prog : Program
 w : World
 K : PySem.W.Frag
 mg : Str → Option Value
 base : Heap
 A : Around
 N : List Str
 s₀ : Shared
 H₀ : Hp
 env : Env
 outer : List Env
 stack : List Env
 ex : List Addr
 fn : Str → Bool
 calm : Bool
 pn : List (Addr × Obj)
 xe : Value → Shared → Prop
def frs (l : List Env) : List Addr := l.filterMap (·.frame)
abbrev Cx.fs (X : Cx) : List Addr := frs X.outer
def Vis (sc : Scope) (x : Str) : Prop := sc.names.lookup x = some .local ∨ sc.names.lookup x = some .cell ∨ sc.names.lookup x = some .free
def Loc (sc : Scope) (x : Str) : Prop := sc.names.lookup x = some .local ∨ sc.names.lookup x = some .cell
def Look (env : Env) (h : Heap) (m : Str → Option Value) (x : Str) (u : Value) : Prop :=
 (env.kindOf x = some .local ∧ m x = some u) ∨ ((env.kindOf x = some .cell ∨ env.kindOf x = some .free) ∧ ∃ c, env.cells.lookup x = some c ∧ h.IsCell c (some u))
structure Cx.Ok (X : Cx) : Prop where
 mod : Mod X.K X.mg X.base
 kind : X.env.scope.kind = .function
 glob : X.env.globals = mainGlobals
 blt : X.env.builtins = builtinsNs
 above : X.s₀.heap.objs.size ≤ X.env.locals
 inj : ∀ x y c, X.env.cells.lookup x = some c → X.env.cells.lookup y = some c → x = y
 has : ∀ x, (X.env.kindOf x = some .cell ∨ X.env.kindOf x = some .free) → ∃ c, X.env.cells.lookup x = some c
 cab : ∀ x c, X.fn x = true → X.env.cells.lookup x = some c → X.s₀.heap.objs.size ≤ c
 hd : X.calm = true → X.A.handled = none
 frames : X.A.frames = some X.stack
 stk : X.stack = X.outer ∨ (X.stack = X.env :: X.outer ∧ X.env.frame = some X.env.locals)
 exf : ∀ b ∈ X.ex, b ≠ X.env.locals ∧ ∀ x c, X.env.cells.lookup x = some c → c ≠ b
 bs : ∀ b o, X.base.get? b = some o → X.s₀.heap.get? b = some o ∧ X.H₀ b = none
 bsz : X.base.objs.size ≤ X.s₀.heap.objs.size
 noex : ∀ b o, X.base.get? b = some o → b ∉ X.ex
 exfs : ∀ b ∈ X.ex, b ∉ X.fs
 funs : X.s₀.heap.FunFrames X.base X.outer
 frf : ∀ b ∈ X.fs, X.H₀ b = none
structure Inv (X : Cx) (pins : List (Addr × Obj)) (σ : List (Option V)) (H : Hp) (s : Shared) : Prop where
 ok : X.Ok
 os : s.os = X.s₀.os
 bare : AllBare s.gens
 base : Un X.fs X.ex X.H₀ H X.s₀.heap s.heap
 loc : ∃ m, s.heap.Ns X.env.locals m ∧ ∀ (i : Nat) (x : Str) (v : V), X.N[i]? = some x → σ[i]? = some (some v) → Vis X.env.scope x → ∃ u, RelV v u ∧ Look X.env s.heap m x u
 cell : ∀ x c, X.env.cells.lookup x = some c → ∃ v, s.heap.IsCell c v
 free : H X.env.locals = none
 freeC : ∀ x c, X.env.cells.lookup x = some c → H c = none
 pin : ∀ p ∈ X.pn ++ pins, s.heap.get? p.1 = some p.2 ∧ H p.1 = none ∧ p.1 ≠ X.env.locals ∧ p.1 ∉ X.fs ∧ ∀ v, p.2.data ≠ .cell v
 hok : HOk X.prog X.w H s.heap
 len : σ.length = X.N.length
section
variable {X : Cx} {pins : List (Addr × Obj)} {σ : List (Option V)} {H H' : Hp} {s : Shared} {h' : Heap}
theorem Cx.Ok.nofr (ok : X.Ok) {b : Addr} {o : Obj} (e : X.base.get? b = some o) : b ∉ X.fs := fun hb => by
 have := (ok.funs.mem hb).1
 rw [e] at this; cases this
theorem Inv.bs (I : Inv X pins σ H s) : ∀ b o, X.base.get? b = some o → s.heap.get? b = some o ∧ H b = none := fun b o e =>
 ⟨I.base.keep b o (I.ok.bs b o e).1 (I.ok.bs b o e).2 (I.ok.nofr e) (I.ok.noex b o e), I.base.free b o (I.ok.bs b o e).1 (I.ok.bs b o e).2 (I.ok.noex b o e)⟩
theorem Inv.bk (I : Inv X pins σ H s) : ∀ b o, X.base.get? b = some o → s.heap.get? b = some o := fun b o e => (I.bs b o e).1
theorem Inv.mod (I : Inv X pins σ H s) : Mod X.K X.mg X.base := I.ok.mod
theorem Inv.kIn (I : Inv X pins σ H s) : X.K.In s.heap := I.ok.mod.kin.keeps I.bk
theorem Inv.lt (I : Inv X pins σ H s) : X.env.locals < s.heap.objs.size := let ⟨_, hn, _⟩ := I.loc; hn.lt
theorem Inv.sz (I : Inv X pins σ H s) : X.s₀.heap.objs.size ≤ s.heap.objs.size := Nat.le_trans I.ok.above (Nat.le_of_lt I.lt)
theorem Inv.nofs (I : Inv X pins σ H s) {a : Addr} (h : s.heap.objs.size ≤ a) : a ∉ X.fs := fun hb => by
 obtain ⟨_, o, ho, _⟩ := I.ok.funs.mem hb
 exact absurd (Nat.lt_of_lt_of_le (Heap.lt_size ho) (Nat.le_trans I.sz h)) (Nat.lt_irrefl _)
theorem Inv.cne (I : Inv X pins σ H s) : ∀ x c, X.env.cells.lookup x = some c → c ≠ X.env.locals := fun x c e z => by
 obtain ⟨v, o, ho, hd⟩ := I.cell x c e
 obtain ⟨m, ⟨o', es, ep, ho', hd', _⟩, _⟩ := I.loc
 rw [z, ho'] at ho; cases ho; rw [hd'] at hd; cases hd
theorem Inv.funs (I : Inv X pins σ H s) : s.heap.FunFrames X.base X.outer := by
 have all : ∀ (l : List Env), (∀ b ∈ frs l, b ∈ X.fs) → X.s₀.heap.FunFrames X.base l → s.heap.FunFrames X.base l := by
  intro l
  induction l with
  | nil => intro _ _; trivial
  | cons env r ih =>
   intro hs hl
   obtain ⟨hk, ⟨L, o, hf, hn, ho, hd⟩, hr⟩ := hl
   have hL : L ∈ X.fs := hs L (by unfold frs; rw [List.filterMap_cons, hf]; exact List.mem_cons_self)
   obtain ⟨sl, e⟩ := I.base.slot L o ho (I.ok.frf L hL) hL fun z => I.ok.exfs L z hL
   exact ⟨hk, ⟨L, _, hf, hn, e, hd⟩, ih (fun b hb => hs b (by unfold frs; rw [List.filterMap_cons, hf]; exact List.mem_cons_of_mem _ hb)) hr⟩
 exact all X.outer (fun _ hb => hb) I.ok.funs
theorem Inv.stack (I : Inv X pins σ H s) : s.heap.FunFrames X.base X.stack := by
 rcases I.ok.stk with e | ⟨e, hf⟩
 ·rw [e]; exact I.funs
 ·rw [e]
  obtain ⟨m, hn, _⟩ := I.loc
  refine .cons (by rw [I.ok.kind]; decide) hf hn ?_ I.funs
  exact Heap.get?_none_of_le (Nat.le_trans I.ok.bsz I.ok.above)
theorem Inv.stkSub (I : Inv X pins σ H s) : ∀ b ∈ frs X.stack, b ∈ X.env.locals :: X.fs := fun b hb => by
 rcases I.ok.stk with e | ⟨e, hf⟩
 ·rw [e] at hb; exact List.mem_cons_of_mem _ hb
 ·rw [e] at hb
  unfold frs at hb
  rw [List.filterMap_cons, hf] at hb
  exact hb
theorem Inv.stkFree (I : Inv X pins σ H s) : ∀ b ∈ frs X.stack, H b = none := fun b hb => by
 rcases List.mem_cons.mp (I.stkSub b hb) with e | hb
 ·rw [e]; exact I.free
 ·obtain ⟨_, o, ho, _⟩ := I.ok.funs.mem hb
  exact I.base.free b o ho (I.ok.frf b hb) fun z => I.ok.exfs b z hb
theorem Inv.step {g' : Array GenState} {t' : Nat} {d' : Drawn} {ch : List Addr} (I : Inv X pins σ H s)
  (hch : ∀ b ∈ ch, (b ∈ X.ex ∨ X.s₀.heap.objs.size ≤ b) ∧ b ≠ X.env.locals ∧ (∀ x c, X.env.cells.lookup x = some c → c ≠ b) ∧ ∀ p ∈ X.pn ++ pins, p.1 ≠ b)
  (keep : ∀ b o, b ≠ X.env.locals → b ∉ X.fs → b ∉ ch → s.heap.get? b = some o → H b = none → h'.get? b = some o)
  (slot : ∀ b o, b ≠ X.env.locals → b ∈ X.fs → b ∉ ch → s.heap.get? b = some o → H b = none → ∃ sl, h'.get? b = some { o with slots := sl }) (free : ∀ b o, b ∉ ch → s.heap.get? b = some o → H b = none → H' b = none)
  (there : ∀ b o, b ∉ ch → s.heap.get? b = some o → ∃ o', h'.get? b = some o')
  (tups : ∀ b xs, H b = some (.tup xs) → H' b = some (.tup xs)) (frzs : ∀ b o u, H b = some (.frz o u) → H' b = some (.frz o u)) (tbls : ∀ b ps, H b = some (.tbl ps) → ∃ more, H' b = some (.tbl (ps ++ more)))
  (ns : ∀ m, s.heap.Ns X.env.locals m → h'.Ns X.env.locals m) (hok : HOk X.prog X.w H' h') (hg : AllBare g') :
  Inv X pins σ H' { s with heap := h', gens := g', drawn := d', toks := t' } := by
 have neL : ∀ b o, X.s₀.heap.get? b = some o → b ≠ X.env.locals := fun b o e => Nat.ne_of_lt (Nat.lt_of_lt_of_le (Heap.lt_size e) I.ok.above)
 have neC : ∀ b o, X.s₀.heap.get? b = some o → b ∉ X.ex → b ∉ ch := fun b o e hx hb => by
  rcases (hch b hb).1 with z | z
  ·exact hx z
  ·exact absurd (Nat.lt_of_lt_of_le (Heap.lt_size e) z) (Nat.lt_irrefl _)
 have cellK : ∀ x c, X.env.cells.lookup x = some c → ∀ v, s.heap.IsCell c v → h'.IsCell c v := fun x c e v ⟨o, ho, hd⟩ => by
  have nch : c ∉ ch := fun z => (hch c z).2.2.1 x c e rfl
  by_cases hc : c ∈ X.fs
  ·obtain ⟨sl, q⟩ := slot c o (I.cne x c e) hc nch ho (I.freeC x c e)
   exact ⟨_, q, hd⟩
  ·exact ⟨o, keep c o (I.cne x c e) hc nch ho (I.freeC x c e), hd⟩
 refine ⟨I.ok, I.os, hg, ⟨fun b o e n hb hx => ?_, fun b o e n hb hx => ?_, fun b o e n hx => ?_, fun b o e hx => ?_, fun b xs e => tups b xs (I.base.tups b xs e), fun b o xs e => frzs b o xs (I.base.frzs b o xs e), fun b ps e => ?_⟩, ?_, fun x c e => ?_, ?_, fun x c e => ?_, fun p hp => ?_, hok, I.len⟩
 ·exact keep b o (neL b o e) hb (neC b o e hx) (I.base.keep b o e n hb hx) (I.base.free b o e n hx)
 ·obtain ⟨sl, e1⟩ := I.base.slot b o e n hb hx
  obtain ⟨sl', e2⟩ := slot b _ (neL b o e) hb (neC b o e hx) e1 (I.base.free b o e n hx)
  exact ⟨sl', e2⟩
 ·obtain ⟨o', e1⟩ := I.base.there b o e hx
  exact free b o' (neC b o e hx) e1 (I.base.free b o e n hx)
 ·obtain ⟨o', e1⟩ := I.base.there b o e hx
  exact there b o' (neC b o e hx) e1
 ·obtain ⟨m1, e1⟩ := I.base.tbls b ps e
  obtain ⟨m2, e2⟩ := tbls b _ e1
  exact ⟨m1 ++ m2, by rw [e2, Array.append_assoc]⟩
 ·obtain ⟨m, hn, hl⟩ := I.loc
  refine ⟨m, ns m hn, fun i x v e1 e2 e3 => ?_⟩
  obtain ⟨u, r, l⟩ := hl i x v e1 e2 e3
  refine ⟨u, r, ?_⟩
  rcases l with l | ⟨k, c, e, z⟩
  ·exact .inl l
  ·exact .inr ⟨k, c, e, cellK x c e _ z⟩
 ·obtain ⟨v, z⟩ := I.cell x c e
  exact ⟨v, cellK x c e v z⟩
 ·obtain ⟨m, ⟨o, _, _, ho, _⟩, _⟩ := I.loc
  exact free _ o (fun z => (hch _ z).2.1 rfl) ho I.free
 ·obtain ⟨v, o, ho, hd⟩ := I.cell x c e
  exact free c o (fun z => (hch c z).2.2.1 x c e rfl) ho (I.freeC x c e)
 ·obtain ⟨e, n, ne, nf, d⟩ := I.pin p hp
  have nch : p.1 ∉ ch := fun z => (hch p.1 z).2.2.2 p hp rfl
  exact ⟨keep p.1 p.2 ne nf nch e n, free p.1 p.2 nch e n, ne, nf, d⟩
theorem Inv.un {t' : Nat} (I : Inv X pins σ H s) (u : Un X.fs [] H H' s.heap h') (hok : HOk X.prog X.w H' h') : Inv X pins σ H' { s with heap := h', toks := t' } := by
 obtain ⟨m, ⟨o, es, ep, ho, r⟩, _⟩ := id I.loc
 obtain ⟨sl, hL⟩ := u.any ho I.free (by simp)
 exact I.step (g' := s.gens) (d' := s.drawn) (ch := []) (fun _ z => nomatch z) (fun b o _ hb _ e n => u.keep b o e n hb (by simp)) (fun b o _ hb _ e n => u.slot b o e n hb (by simp)) (fun b o _ e n => u.free b o e n (by simp)) (fun b o _ e => u.there b o e (by simp)) u.tups u.frzs u.tbls (fun m' hm => by
  obtain ⟨o', es', ep', ho', r'⟩ := hm
  rw [ho] at ho'; cases ho'
  exact ⟨_, es', ep', hL, r'⟩) hok I.bare
theorem Inv.call {g' : Array GenState} {t' : Nat} {d' : Drawn} {ch : List Addr} (I : Inv X pins σ H s) (u : Un (frs X.stack) ch H H' s.heap h') (hok : HOk X.prog X.w H' h') (hg : AllBare g')
  (hch : ∀ b ∈ ch, (b ∈ X.ex ∨ X.s₀.heap.objs.size ≤ b) ∧ b ≠ X.env.locals ∧ (∀ x c, X.env.cells.lookup x = some c → c ≠ b) ∧ ∀ p ∈ X.pn ++ pins, p.1 ≠ b) :
  Inv X pins σ H' { s with heap := h', gens := g', drawn := d', toks := t' } := by
 obtain ⟨m, ⟨o, es, ep, ho, r⟩, _⟩ := id I.loc
 obtain ⟨sl, hL⟩ := u.any ho I.free fun z => (hch _ z).2.1 rfl
 exact I.step (ch := ch) hch (fun b o hL hb hc e n => u.keep b o e n (fun z => (List.mem_cons.mp (I.stkSub b z)).elim hL hb) hc) (fun b o _ _ hc e n => u.any e n hc) (fun b o hc e n => u.free b o e n hc) (fun b o hc e => u.there b o e hc) u.tups u.frzs u.tbls (fun m' hm => by
  obtain ⟨o', es', ep', ho', r'⟩ := hm
  rw [ho] at ho'; cases ho'
  exact ⟨_, es', ep', hL, r'⟩) hok hg
theorem Inv.turned {t' : Nat} {it : Addr} (I : Inv X pins σ H s) (k : ∀ b o, b ≠ it → s.heap.get? b = some o → h'.get? b = some o) (hn : H it = none) (hL : it ≠ X.env.locals)
  (h1 : it ∈ X.ex ∨ X.s₀.heap.objs.size ≤ it) (h2 : ∀ x c, X.env.cells.lookup x = some c → c ≠ it) (h3 : ∀ p ∈ X.pn ++ pins, p.1 ≠ it) : Inv X pins σ H { s with heap := h', toks := t' } := by
 have nit : ∀ b u, H b = some u → b ≠ it := fun b u e z => by rw [z, hn] at e; cases e
 refine I.step (g' := s.gens) (d' := s.drawn) (ch := [it]) (fun b hb => ?_) (fun b o _ _ hc e _ => k b o (fun z => hc (by simp [z])) e) (fun b o _ _ hc e _ => ⟨o.slots, k b o (fun z => hc (by simp [z])) e⟩) (fun _ _ _ _ n => n)
  (fun b o hc e => ⟨o, k b o (fun z => hc (by simp [z])) e⟩) (fun _ _ e => e) (fun _ _ _ e => e) (fun b ps e => ⟨#[], by rw [e]; simp⟩) (fun m hm => ?_) (fun b u e => ?_) I.bare
 ·have e : b = it := by simpa using hb
  subst e
  exact ⟨h1, hL, h2, h3⟩
 ·obtain ⟨o, es, ep, ho, r⟩ := hm
  exact ⟨o, es, ep, k _ o (Ne.symm hL) ho, r⟩
 ·refine (I.hok b u e).stay (fun c v hc q => k c v ?_ q) (fun _ q => q) fun _ _ q => q
  rcases hc with z | z
  ·rw [z]; exact nit b u e
  ·exact nit c _ z
theorem Inv.tok (I : Inv X pins σ H s) (t : Nat) : Inv X pins σ H { s with toks := t } := I.un (h' := s.heap) (t' := t) Un.refl I.hok
theorem Inv.kept {t' : Nat} (I : Inv X pins σ H s) (k : ∀ b u, s.heap.get? b = some u → h'.get? b = some u) : Inv X pins σ H { s with heap := h', toks := t' } := I.un (Un.kept k) (I.hok.kept k)
theorem Inv.laid {a : Addr} {o : HO} {t' : Nat} (I : Inv X pins σ H s) (k : ∀ b u, s.heap.get? b = some u → h'.get? b = some u) (hp : s.heap.objs.size ≤ a) (new : q1h X.prog X.w (upd H a o) h' a o) :
  Inv X pins σ (upd H a o) { s with heap := h', toks := t' } := I.un (Un.laid k hp (I.hok.fresh hp)) (I.hok.laid k hp new)
theorem Inv.write {x e : Addr} {o : HO} {t' : Nat} (I : Inv X pins σ H s) (mu : Mut (H x)) (he : e = x ∨ H e = some (.own x)) (k : ∀ b u, b ≠ e → s.heap.get? b = some u → h'.get? b = some u) (heo : ∃ u, h'.get? e = some u)
  (new : q1h X.prog X.w (upd H x o) h' x o) : Inv X pins σ (upd H x o) { s with heap := h', toks := t' } := I.un (Un.write mu he k heo) (I.hok.write mu he k heo new)
theorem Inv.pins_of {pins' : List (Addr × Obj)} (I : Inv X pins σ H s) (h : ∀ p ∈ pins', s.heap.get? p.1 = some p.2 ∧ H p.1 = none ∧ p.1 ≠ X.env.locals ∧ p.1 ∉ X.fs ∧ ∀ v, p.2.data ≠ .cell v) : Inv X pins' σ H s :=
 ⟨I.ok, I.os, I.bare, I.base, I.loc, I.cell, I.free, I.freeC, fun p hp => (List.mem_append.mp hp).elim (fun z => I.pin p (List.mem_append_left _ z)) (h p), I.hok, I.len⟩
theorem q9l {N : List Str} (hN : N.Nodup) {i j : Nat} {x : Str} (a : N[i]? = some x) (b : N[j]? = some x) : i = j := by
 obtain ⟨h1, e1⟩ := List.getElem?_eq_some_iff.mp a
 obtain ⟨h2, e2⟩ := List.getElem?_eq_some_iff.mp b
 exact (List.getElem_inj hN).mp (e1.trans e2.symm)
theorem qcb {M : Model} {A : Around} {E : Value → Shared → Prop} {i : Nat} {x : Str} {v : V} {u : Value} {Q : Unit → Shared → Prop} (I : Inv X pins σ H s) (hN : X.N.Nodup) (hi : X.N[i]? = some x) (hx : Loc X.env.scope x) (r : RelV v u)
  (h : ∀ s', Inv X pins (σ.set i (some v)) H s' → (∃ a, Heap.SameBut a s.heap s'.heap ∧ (a = X.env.locals ∨ X.env.cells.lookup x = some a)) → Q () s') (hf : X.fn x = true ∨ X.env.scope.names.lookup x = some .local := by first | exact .inl rfl | exact .inr rfl | assumption) : wpAny M A (storeName X.env x u) Q E s := by
 obtain ⟨m, hn, hl⟩ := id I.loc
 have hcls : (X.env.scope.kind == .class || (X.env.scope.kind == .module && X.env.locals != X.env.globals)) = false := by rw [I.ok.kind]; rfl
 have hiσ : i < σ.length := by rw [I.len]; exact (List.getElem?_eq_some_iff.mp hi).1
 have cne := I.cne
 have tracked : ∀ {a : Addr} {h' : Heap}, (∃ o, s.heap.get? a = some o ∧ H a = none) → Heap.SameBut a s.heap h' → HOk X.prog X.w H h' := fun {a h'} ha hs b ob e => by
  obtain ⟨_, _, hfree⟩ := ha
  refine (I.hok b ob e).stay (fun c w' hc q => (hs.2 c ?_).trans q) (fun _ q => q) fun _ _ q => q
  rintro rfl
  rcases hc with rfl | hc
  ·rw [hfree] at e; cases e
  ·rw [hfree] at hc; cases hc
 rcases hx with hk | hk
 ·refine wpAny_storeName_local hk hn (fun h' hn' hs => ?_) hcls
  obtain ⟨oL, _, _, hoL, _⟩ := id hn
  refine h _ ⟨I.ok, I.os, I.bare, ⟨fun b o e n hb hx => ?_, fun b o e n hb hx => ?_, I.base.free, fun b o e hx => ?_, I.base.tups, I.base.frzs, I.base.tbls⟩, ⟨_, hn', fun j y v' e1 e2 e3 => ?_⟩, fun y c e => ?_, I.free, I.freeC, fun p hp => ?_, tracked ⟨oL, hoL, I.free⟩ hs, by simpa using I.len⟩ ⟨_, hs, .inl rfl⟩
  ·exact (hs.2 b (Nat.ne_of_lt (Nat.lt_of_lt_of_le (Heap.lt_size e) I.ok.above))).trans (I.base.keep b o e n hb hx)
  ·obtain ⟨sl, e1⟩ := I.base.slot b o e n hb hx
   exact ⟨sl, (hs.2 b (Nat.ne_of_lt (Nat.lt_of_lt_of_le (Heap.lt_size e) I.ok.above))).trans e1⟩
  ·obtain ⟨o', e1⟩ := I.base.there b o e hx
   exact ⟨o', (hs.2 b (Nat.ne_of_lt (Nat.lt_of_lt_of_le (Heap.lt_size e) I.ok.above))).trans e1⟩
  ·by_cases hj : j = i
   ·subst hj
    rw [hi] at e1; cases e1
    rw [List.getElem?_set_self hiσ] at e2
    cases e2
    exact ⟨u, r, .inl ⟨hk, by simp⟩⟩
   ·rw [List.getElem?_set_ne (Ne.symm hj)] at e2
    obtain ⟨u', r', q⟩ := hl j y v' e1 e2 e3
    refine ⟨u', r', ?_⟩
    rcases q with ⟨k, e⟩ | ⟨k, c, e, z⟩
    ·refine .inl ⟨k, ?_⟩
     have : y ≠ x := fun e => hj (q9l hN e1 (e ▸ hi))
     simp [this, e]
    ·exact .inr ⟨k, c, e, z.sameBut hs (cne y c e)⟩
  ·obtain ⟨w', z⟩ := I.cell y c e
   exact ⟨w', z.sameBut hs (cne y c e)⟩
  ·obtain ⟨e, n, ne, nf, d⟩ := I.pin p hp
   exact ⟨(hs.2 p.1 ne).trans e, n, ne, nf, d⟩
 ·have hfn : X.fn x = true := by
   rcases hf with z | z
   ·exact z
   ·rw [z] at hk; cases hk
  obtain ⟨c, hc⟩ := I.ok.has x (.inl hk)
  obtain ⟨w', z⟩ := I.cell x c hc
  refine wpAny_storeName_cell I.ok.kind hk hc z (fun h' hc' hs => ?_)
  obtain ⟨oc, hoc, hocd⟩ := id z
  refine h { s with heap := h' } ⟨I.ok, I.os, I.bare, ⟨fun b o e n hb hx => ?_, fun b o e n hb hx => ?_, I.base.free, fun b o e hx => ?_, I.base.tups, I.base.frzs, I.base.tbls⟩, ⟨m, hn.sameBut hs (Ne.symm (cne x c hc)), fun j y v' e1 e2 e3 => ?_⟩, fun y c' e => ?_, I.free, I.freeC, fun p hp => ?_, tracked ⟨oc, hoc, I.freeC x c hc⟩ hs, by simpa using I.len⟩ ⟨c, hs, .inr hc⟩
  ·exact (hs.2 b (Nat.ne_of_lt (Nat.lt_of_lt_of_le (Heap.lt_size e) (I.ok.cab x c hfn hc)))).trans (I.base.keep b o e n hb hx)
  ·obtain ⟨sl, e1⟩ := I.base.slot b o e n hb hx
   exact ⟨sl, (hs.2 b (Nat.ne_of_lt (Nat.lt_of_lt_of_le (Heap.lt_size e) (I.ok.cab x c hfn hc)))).trans e1⟩
  ·obtain ⟨o', e1⟩ := I.base.there b o e hx
   exact ⟨o', (hs.2 b (Nat.ne_of_lt (Nat.lt_of_lt_of_le (Heap.lt_size e) (I.ok.cab x c hfn hc)))).trans e1⟩
  ·by_cases hj : j = i
   ·subst hj
    rw [hi] at e1; cases e1
    rw [List.getElem?_set_self hiσ] at e2
    cases e2
    exact ⟨u, r, .inr ⟨.inl hk, c, hc, hc'⟩⟩
   ·rw [List.getElem?_set_ne (Ne.symm hj)] at e2
    obtain ⟨u', r', q⟩ := hl j y v' e1 e2 e3
    refine ⟨u', r', ?_⟩
    rcases q with q | ⟨k, c', e, z'⟩
    ·exact .inl q
    ·refine .inr ⟨k, c', e, z'.sameBut hs ?_⟩
     rintro rfl
     exact hj (q9l hN e1 (I.ok.inj _ _ _ e hc ▸ hi))
  ·by_cases hcc : c' = c
   ·subst hcc; exact ⟨_, hc'⟩
   ·obtain ⟨w2, z2⟩ := I.cell y c' e
    exact ⟨w2, z2.sameBut hs hcc⟩
  ·obtain ⟨e, n, ne, nf, d⟩ := I.pin p hp
   refine ⟨(hs.2 p.1 ?_).trans e, n, ne, nf, d⟩
   intro q
   rw [q, hoc] at e
   have q' : oc = p.2 := Option.some.inj e
   exact d w' (by rw [← q']; exact hocd)
theorem q9c {M : Model} {A : Around} {E : Value → Shared → Prop} {i : Nat} {x : Str} {v : V} {u : Value} {Q : Unit → Shared → Prop} (I : Inv X pins σ H s) (hN : X.N.Nodup) (hi : X.N[i]? = some x) (hx : Loc X.env.scope x) (r : RelV v u)
  (h : ∀ s', Inv X pins (σ.set i (some v)) H s' → Q () s') (hf : X.fn x = true ∨ X.env.scope.names.lookup x = some .local := by first | exact .inl rfl | exact .inr rfl | assumption) : wpAny M A (storeName X.env x u) Q E s :=
 qcb I hN hi hx r (fun s' I' _ => h s' I') hf
theorem Inv.call' {s' : Shared} {ch : List Addr} (I : Inv X pins σ H s) (ho : s'.os = s.os) (u : Un (frs X.stack) ch H H' s.heap s'.heap) (hok : HOk X.prog X.w H' s'.heap) (hg : AllBare s'.gens)
  (hch : ∀ b ∈ ch, (b ∈ X.ex ∨ X.s₀.heap.objs.size ≤ b) ∧ b ≠ X.env.locals ∧ (∀ x c, X.env.cells.lookup x = some c → c ≠ b) ∧ ∀ p ∈ X.pn ++ pins, p.1 ≠ b) : Inv X pins σ H' s' := by
 obtain ⟨h', g', d', t', o'⟩ := s'
 have e : o' = s.os := ho
 subst e
 exact I.call (g' := g') (t' := t') (d' := d') u hok hg hch
end
abbrev XK := Value → Option Addr → Hp → Prop
abbrev St := List (Option V)
abbrev VK := V → Hp → Prop
abbrev TE := St → Hp → VK → Prop
abbrev TT := St → Hp → (Bool → Hp → Prop) → Prop
abbrev TA := St → Hp → (List V → Hp → Prop) → Prop
structure Ends where
 nx : St → Hp → Prop
 rt : VK
 bk : St → Hp → Prop := fun _ _ => False
 ct : St → Hp → Prop := fun _ _ => False
abbrev TS := Ends → St → Hp → Prop
def EP (X : Cx) (pins : List (Addr × Obj)) (σ : St) (Q : VK) (u : Value) (s' : Shared) : Prop := ∃ v H', Inv X pins σ H' s' ∧ RelV v u ∧ Q v H'
def TP (X : Cx) (pins : List (Addr × Obj)) (σ : St) (Q : Bool → Hp → Prop) (b : Bool) (s' : Shared) : Prop := ∃ H', Inv X pins σ H' s' ∧ Q b H'
def AP (X : Cx) (pins : List (Addr × Obj)) (σ : St) (Q : List V → Hp → Prop) (us : List Value) (s' : Shared) : Prop := ∃ vs H', Inv X pins σ H' s' ∧ Vals vs us ∧ Q vs H'
def SP (X : Cx) (pins : List (Addr × Obj)) (D : Ends) (f : Flow) (s' : Shared) : Prop :=
 match f with
 | .next => ∃ σ' H', Inv X pins σ' H' s' ∧ D.nx σ' H'
 | .brk => ∃ σ' H', Inv X pins σ' H' s' ∧ D.bk σ' H'
 | .cont => ∃ σ' H', Inv X pins σ' H' s' ∧ D.ct σ' H'
 | .ret u => ∃ v σ' H', Inv X pins σ' H' s' ∧ RelV v u ∧ D.rt v H'
def PE (X : Cx) (e : Expr) (t : TE) : Prop :=
 ∀ (pins : List (Addr × Obj)) (s : Shared) (σ : St) (H : Hp) (Q : VK), Inv X pins σ H s → t σ H Q → wpAny (model X.prog X.w) X.A (eval e X.env) (EP X pins σ Q) X.xe s
def PT (X : Cx) (e : Expr) (t : TT) : Prop :=
 ∀ (pins : List (Addr × Obj)) (s : Shared) (σ : St) (H : Hp) (Q : Bool → Hp → Prop), Inv X pins σ H s → t σ H Q → wpAny (model X.prog X.w) X.A (isTrue e X.env (eval e X.env)) (TP X pins σ Q) X.xe s
def PW (X : Cx) (e : Expr) (t : TT) : Prop :=
 ∀ (whole : Sem Value) (pins : List (Addr × Obj)) (s : Shared) (σ : St) (H : Hp) (Q : Bool → Hp → Prop), Inv X pins σ H s → t σ H Q → wpAny (model X.prog X.w) X.A (isTrue e X.env whole) (TP X pins σ Q) X.xe s
theorem PW.pt {X : Cx} {e : Expr} {t : TT} (h : PW X e t) : PT X e t := h _
def PA (X : Cx) (es : List Expr) (t : TA) : Prop :=
 ∀ (pos : Pos) (pins : List (Addr × Obj)) (s : Shared) (σ : St) (H : Hp) (Q : List V → Hp → Prop), Inv X pins σ H s → t σ H Q → wpAny (model X.prog X.w) X.A (spliced (backTo pos (starEach es X.env))) (AP X pins σ Q) X.xe s
def PS (X : Cx) (st : Stmt) (t : TS) : Prop :=
 ∀ (pins : List (Addr × Obj)) (s : Shared) (σ : St) (H : Hp) (D : Ends), Inv X pins σ H s → t D σ H → wpAny (model X.prog X.w) X.A (exec st X.env) (SP X pins D) X.xe s
def PSs (X : Cx) (st : List Stmt) (t : TS) : Prop :=
 ∀ (pins : List (Addr × Obj)) (s : Shared) (σ : St) (H : Hp) (D : Ends), Inv X pins σ H s → t D σ H → wpAny (model X.prog X.w) X.A (execs st X.env) (SP X pins D) X.xe s
theorem thn {α : Type} {t : Sem α} {Q Q' : α → Shared → Prop} {M : Model} {A : Around} {E : Value → Shared → Prop} {s : Shared} (h : wpAny M A t Q E s) (hQ : ∀ a s, Q a s → Q' a s) : wpAny M A t Q' E s := wpAny_mono h hQ fun _ _ x => x
end L2
namespace L2
open PySem PySem.Spec PyProof.Rows
section
variable {X : Cx}
def tVar (i : Nat) : TE := fun σ H Q => ∃ v, σ[i]? = some (some v) ∧ Q v H
def tC (v : V) : TE := fun _ H Q => Q v H
theorem qi3 {i : Nat} {x : Str} {pos : Pos} (hN : X.N[i]? = some x) (hv : Vis X.env.scope x) (hd : (x == ("__debug__" : Str)) = false := by decide) (hcd : (x == ("__classdict__" : Str)) = false := by decide) : PE X (.Name x pos) (tVar i) := by
 intro pins s σ H Q I h
 obtain ⟨v, e, h⟩ := h
 obtain ⟨m, hn, hl⟩ := I.loc
 obtain ⟨u, r, l⟩ := hl i x v hN e hv
 have fin : EP X pins σ Q u s := ⟨v, H, I, r, h⟩
 rcases l with ⟨hk, hm⟩ | ⟨hk, c, hc, hcell⟩
 ·exact wpAny_Name (wpAny_loadName_local I.ok.kind hk hn hm fin) hd
 ·rcases hk with hk | hk
  ·exact wpAny_Name (wpAny_loadName_cell I.ok.kind hk hc hcell fin) hd
  ·exact wpAny_Name (wpAny_loadName_free I.ok.kind hk hc hcell fin hcd) hd
theorem q01 {i j pos} : PE X (.Constant (.int i) j pos) (tC (.int i)) := fun _ _ _ H _ I h => wpAny_Constant_int ⟨.int i, H, I.tok _, ⟨_, rfl⟩, h⟩
theorem q1p {b j pos} : PE X (.Constant (.bool b) j pos) (tC (.bl b)) := fun _ _ _ H _ I h => Constant_bool ⟨.bl b, H, I, rfl, h⟩
theorem q4g {j pos} : PE X (.Constant .none j pos) (tC .non) := fun _ _ _ H _ I h => Constant_none ⟨.non, H, I, rfl, h⟩
theorem q0e {x j pos} : PE X (.Constant (.str x) j pos) (tC (.str x)) := fun _ _ _ H _ I h => Calls.Constant_str ⟨.str x, H, I.tok _, ⟨_, rfl⟩, h⟩
def Gl (X : Cx) (x : Str) : Prop := X.env.kindOf x = some .globalImplicit
theorem q59 {E : Value → Shared → Prop} {pins : List (Addr × Obj)} {s : Shared} {σ : St} {H : Hp} {x : Str} {u : Value} {pos : Pos} {Q : Value → Shared → Prop} (I : Inv X pins σ H s) (hg : Gl X x) (hm : X.mg x = some u) (h : Q u s)
  (hd : (x == ("__debug__" : Str)) = false := by decide) : wpAny (model X.prog X.w) X.A (eval (.Name x pos) X.env) Q E s :=
 Calls.Name_function_global I.ok.kind hg (Calls.loadGlobal_global (by rw [I.ok.glob]; exact I.mod.glob.keeps I.bk) hm h) hd
theorem q8s {E : Value → Shared → Prop} {pins : List (Addr × Obj)} {s : Shared} {σ : St} {H : Hp} {x : Str} {u : Value} {pos : Pos} {Q : Value → Shared → Prop} (I : Inv X pins σ H s) (hg : Gl X x) (hm : X.mg x = none) (hv : bootBuiltins x = some u) (h : Q u s)
  (hn : x ≠ "__name__" := by decide) (hd : (x == ("__debug__" : Str)) = false := by decide) : wpAny (model X.prog X.w) X.A (eval (.Name x pos) X.env) Q E s := by
 obtain ⟨mb, h1, h2⟩ := I.mod.blt
 exact Calls.Name_function_global I.ok.kind hg (Calls.loadGlobal_builtin (by rw [I.ok.glob]; exact I.mod.glob.keeps I.bk) hm (by rw [I.ok.blt]; exact h1.keeps I.bk) ((h2 x hn).trans hv) h) hd
theorem q0y {x : Str} {v : V} {u : Value} {pos : Pos} (hg : Gl X x) (hm : X.mg x = none) (hv : bootBuiltins x = some u) (r : RelV v u) (hn : x ≠ "__name__" := by decide) (hd : (x == ("__debug__" : Str)) = false := by decide) : PE X (.Name x pos) (tC v) :=
 fun _ _ _ H _ I h => q8s I hg hm hv ⟨v, H, I, r, h⟩ hn hd
variable {a b : Expr} {ta tb : TE} {pos : Pos}
def PC (X : Cx) (op : CmpOp) (a b : Expr) (t : TE) : Prop :=
 ∀ (pins : List (Addr × Obj)) (s : Shared) (σ : St) (H : Hp) (Q : VK), Inv X pins σ H s → t σ H Q →
  wpAny (model X.prog X.w) X.A (eval a X.env) (fun v s₁ => wpAny (model X.prog X.w) X.A (eval b X.env) (fun u s₂ => wpAny (model X.prog X.w) X.A (compareOp op v u) (EP X pins σ Q) X.xe s₂) X.xe s₁) X.xe s
theorem q9m (b : Expr) {op : CmpOp} (h : op ≠ .In) (h2 : op ≠ .NotIn) : behindInMarks op b = false := by
 have e1 : (op == CmpOp.In) = false := by cases op <;> first | rfl | exact absurd rfl h
 have e2 : (op == CmpOp.NotIn) = false := by cases op <;> first | rfl | exact absurd rfl h2
 cases b <;> simp [behindInMarks, e1, e2]
def tIsN (ta : TE) : TE := fun σ H Q => ta σ H fun x H1 => Q (.bl (decide (x = .non))) H1
theorem RelV.none_iff {x : V} {v : Value} (r : RelV x v) : (v == Value.none) = decide (x = .non) := by
 cases x with
 | non => cases r; rfl
 | bl _ => cases r; rfl
 | int _ => obtain ⟨t, rfl⟩ := r; rfl
 | str _ => obtain ⟨t, rfl⟩ := r; rfl
 | byt _ => obtain ⟨t, rfl⟩ := r; rfl
 | flt _ => obtain ⟨t, rfl⟩ := r; rfl
 | ref _ => cases r; rfl
 | ty _ => cases r; rfl
theorem q73 {j pos'} (ha : PE X a ta) : PC X .Is a (.Constant .none j pos') (tIsN ta) := by
 intro pins s σ H Q I h
 refine thn (ha pins s σ H _ I h) fun v s1 ⟨x, H1, I1, r1, q1⟩ => ?_
 exact Constant_none (is_none_gen ⟨.bl _, H1, I1, by rw [r1.none_iff]; rfl, q1⟩)
def tB (t : TE) : TT := fun σ H Q => t σ H fun x H1 => ∃ c, x = .bl c ∧ Q c H1
theorem qiu {op : CmpOp} {t : TE} (h : PC X op a b t) (h1 : behindInMarks op b = false := by first | exact q9m _ (by decide) (by decide) | rfl) : PE X (.Compare a [op] [b] pos) t := fun pins s σ H Q I hw => wpAny_Compare1 (h pins s σ H Q I hw) h1
theorem q4k {op : CmpOp} {t : TE} (h : PC X op a b t) (h1 : behindInMarks op b = false := by first | exact q9m _ (by decide) (by decide) | rfl) : PT X (.Compare a [op] [b] pos) (tB t) := by
 intro pins s σ H Q I hw
 refine wpAny_isTrue_Compare1 (thn (h pins s σ H _ I hw) fun v s1 h1 => thn h1 fun u s2 h2 => thn h2 fun c s3 ⟨x, H1, I1, r1, q1⟩ => ?_) h1
 obtain ⟨d, rfl, q⟩ := q1
 cases r1
 exact wpAny_truthy_bool ⟨H1, I1, q⟩
theorem q16 {e : Expr} {t : TE} (h : PE X e t) (he : ∀ whole, isTrue e X.env whole = (do let v ← whole; standAt e.pos; holding [v] (truthy v)) := by intro _; rfl) : PT X e (tB t) := by
 intro pins s σ H Q I hw
 refine isTrue_plain (thn (h pins s σ H _ I hw) fun v s1 ⟨x, H1, I1, r1, q1⟩ => ?_) (he _)
 obtain ⟨d, rfl, q⟩ := q1
 cases r1
 exact wpAny_truthy_bool ⟨H1, I1, q⟩
variable {tA tB' : TT} {rest : List Expr}
def tAnd (t u : TT) : TT := fun σ H Q => t σ H fun c H1 => if c = true then u σ H1 Q else Q false H1
def tOr (t u : TT) : TT := fun σ H Q => t σ H fun c H1 => if c = true then Q true H1 else u σ H1 Q
def tNot (t : TT) : TT := fun σ H Q => t σ H fun c H1 => Q (!c) H1
theorem qhj (ha : PT X a tA) : PW X (.BoolOp .And [a] pos) tA := by
 intro wh pins s σ H Q I h
 refine isTrue_and (thn (ha pins s σ H Q I h) fun c s1 e => ?_)
 cases c with
 | true => exact isTrue_and_nil e
 | false => exact e
theorem q2f (ha : PT X a tA) : PW X (.BoolOp .Or [a] pos) tA := by
 intro wh pins s σ H Q I h
 refine isTrue_or (thn (ha pins s σ H Q I h) fun c s1 e => ?_)
 cases c with
 | false => exact isTrue_or_nil e
 | true => exact e
theorem qjr (ha : PT X a tA) (hb : PW X (.BoolOp .And (b :: rest) pos) tB') : PW X (.BoolOp .And (a :: b :: rest) pos) (tAnd tA tB') := by
 intro wh pins s σ H Q I h
 refine isTrue_and (thn (ha pins s σ H _ I h) fun c s1 ⟨H1, I1, q1⟩ => ?_)
 cases c with
 | true => exact hb wh pins s1 σ H1 Q I1 q1
 | false => exact ⟨H1, I1, q1⟩
theorem q34 (ha : PT X a tA) (hb : PW X (.BoolOp .Or (b :: rest) pos) tB') : PW X (.BoolOp .Or (a :: b :: rest) pos) (tOr tA tB') := by
 intro wh pins s σ H Q I h
 refine isTrue_or (thn (ha pins s σ H _ I h) fun c s1 ⟨H1, I1, q1⟩ => ?_)
 cases c with
 | true => exact ⟨H1, I1, q1⟩
 | false => exact hb wh pins s1 σ H1 Q I1 q1
theorem q1a (ha : PT X a tA) : PT X (.UnaryOp .Not a pos) (tNot tA) := by
 intro pins s σ H Q I h
 exact isTrue_not (ha pins s σ H (fun c H1 => Q (!c) H1) I h)
def qk0 (ta tb : TE) : TE := fun σ H Q => ta σ H fun x H1 => ∃ c, x = .bl c ∧ if c = true then tb σ H1 Q else Q (.bl false) H1
def qk3 (ta : TE) : TE := fun σ H Q => ta σ H fun x H1 => ∃ c, x = .bl c ∧ Q (.bl (!c)) H1
theorem q7y {op} {t : TE} (h : PE X a t) : PE X (.BoolOp op [a] pos) t := fun pins s σ H Q I hw => BoolOp_one (h pins s σ H Q I hw)
theorem q5k (ha : PE X a ta) (hb : PE X (.BoolOp .And (b :: rest) pos) tb) : PE X (.BoolOp .And (a :: b :: rest) pos) (qk0 ta tb) := by
 intro pins s σ H Q I h
 refine BoolOp_and (thn (ha pins s σ H _ I h) fun v s1 ⟨x, H1, I1, r1, q1⟩ => ?_)
 obtain ⟨c, rfl, q1⟩ := q1
 cases r1
 refine wpAny_truthy_bool ?_
 cases c with
 | true => exact hb pins s1 σ H1 Q I1 q1
 | false => exact ⟨.bl false, H1, I1, rfl, q1⟩
theorem qfr (ha : PE X a ta) : PE X (.UnaryOp .Not a pos) (qk3 ta) := by
 intro pins s σ H Q I h
 refine UnaryOp_ (thn (ha pins s σ H _ I h) fun v s1 ⟨x, H1, I1, r1, q1⟩ => ?_)
 obtain ⟨c, rfl, q1⟩ := q1
 cases r1
 exact not_of (wpAny_truthy_bool ⟨.bl (!c), H1, I1, rfl, q1⟩)
def tIf (t : TT) (ta tb : TE) : TE := fun σ H Q => t σ H fun c H1 => if c = true then ta σ H1 Q else tb σ H1 Q
theorem q6o {c : Expr} (hc : PT X c tA) (ha : PE X a ta) (hb : PE X b tb) : PE X (.IfExp c a b pos) (tIf tA ta tb) := by
 intro pins s σ H Q I h
 refine wpAny_IfExp (thn (hc pins s σ H _ I h) fun d s1 ⟨H1, I1, q1⟩ => ?_)
 cases d with
 | true => exact ha pins s1 σ H1 Q I1 q1
 | false => exact hb pins s1 σ H1 Q I1 q1
end
end L2
namespace L2
open PySem PySem.Spec PyProof.Rows
def SqL (K : PySem.W.Frag) (H : Hp) (a : Addr) (xs : List V) : Prop :=
 Rd H a (.lst xs) ∨
  ∃ (o : Obj) (its : Array Value) (n : Nat), K.lookup a = some o ∧ o.cls = .type "list" ∧ o.dict = none ∧ o.data = .seq its n ∧ its.size ≤ sizeLine ∧ Vals xs its.toList
def SqT (K : PySem.W.Frag) (H : Hp) (a : Addr) (xs : List V) : Prop :=
 Rd H a (.tup xs) ∨
  ∃ (o : Obj) (its : Array Value) (n : Nat), K.lookup a = some o ∧ o.cls = .type "tuple" ∧ o.data = .seq its n ∧ its.size ≤ sizeLine ∧ Vals xs its.toList
def absV : Value → Option V
 | .none => some .non
 | .bool b => some (.bl b)
 | .int i _ => some (.int i)
 | .str x _ => some (.str x)
 | .bytes b _ => some (.byt b)
 | .float b _ => some (.flt b)
 | .ref a => some (.ref a)
 | .type n => some (.ty n)
 | _ => none
theorem RelV.abs {x : V} {u : Value} (r : RelV x u) : absV u = some x := by
 cases x with
 | non => cases r; rfl
 | bl _ => cases r; rfl
 | int _ => obtain ⟨t, rfl⟩ := r; rfl
 | str _ => obtain ⟨t, rfl⟩ := r; rfl
 | byt _ => obtain ⟨t, rfl⟩ := r; rfl
 | flt _ => obtain ⟨t, rfl⟩ := r; rfl
 | ref _ => cases r; rfl
 | ty _ => cases r; rfl
theorem RelV.inj {x y : V} {u : Value} (r : RelV x u) (q : RelV y u) : x = y := Option.some.inj (r.abs.symm.trans q.abs)
theorem Vals.inj : ∀ {xs ys : List V} {us : List Value}, Vals xs us → Vals ys us → xs = ys
 | _, _, _, .nil, .nil => rfl
 | _, _, _, .cons r t, .cons r' t' => by rw [r.inj r', Vals.inj t t']
section
variable {X : Cx} {pins : List (Addr × Obj)} {σ : St} {H : Hp} {s : Shared} {a : Addr} {xs ys : List V}
theorem SqL.of {K : PySem.W.Frag} (h : H a = some (.lst xs)) : SqL K H a xs := .inl (.inl h)
theorem SqT.of {K : PySem.W.Frag} (h : H a = some (.tup xs)) : SqT K H a xs := .inl (.inl h)
theorem Inv.list (I : Inv X pins σ H s) (h : SqL X.K H a xs) : ∃ its : List Value, Vals xs its ∧ PlainL s.heap a its.toArray ∧ xs.length ≤ sizeLine := by
 rcases h with h | ⟨o, its, n, hk, hc, hd, hs, hz, r⟩
 ·obtain ⟨z, its, n, r, e⟩ := h.ok I.hok
  exact ⟨its, r, ⟨_, n, e, rfl, rfl, rfl⟩, z⟩
 ·refine ⟨its.toList, r, ⟨o, n, I.kIn a o hk, hc, hd, by simpa using hs⟩, ?_⟩
  have e := r.length
  simp only [Array.length_toList] at e
  omega
theorem Inv.tuple (I : Inv X pins σ H s) (h : SqT X.K H a xs) : ∃ its : List Value, Vals xs its ∧ IsTup s.heap a its.toArray ∧ xs.length ≤ sizeLine := by
 rcases h with h | ⟨o, its, n, hk, hc, hs, hz, r⟩
 ·obtain ⟨z, its, r, p⟩ := h.ok I.hok
  exact ⟨its, r, p, z⟩
 ·refine ⟨its.toList, r, ⟨o, I.kIn a o hk, hc, n, by simpa using hs⟩, ?_⟩
  have e := r.length
  simp only [Array.length_toList] at e
  omega
theorem Inv.list_inj (I : Inv X pins σ H s) (h : SqL X.K H a xs) (h' : SqL X.K H a ys) : xs = ys := by
 obtain ⟨its, r, ⟨o, n, e, _, _, d⟩, _⟩ := I.list h
 obtain ⟨its', r', ⟨o', n', e', _, _, d'⟩, _⟩ := I.list h'
 rw [e] at e'; cases e'
 rw [d] at d'
 injection d' with d1 _
 have : its = its' := by simpa using congrArg Array.toList d1
 subst this
 exact r.inj r'
end
abbrev Cx.wish (X : Cx) (E : Value → Shared → Prop) : Cx := { X with xe := E }
abbrev Cx.nox (X : Cx) : Cx := X.wish fun _ _ => False
theorem Cx.Ok.wish {X : Cx} (ok : X.Ok) (E : Value → Shared → Prop) : (X.wish E).Ok :=
 ⟨ok.mod, ok.kind, ok.glob, ok.blt, ok.above, ok.inj, ok.has, ok.cab, ok.hd, ok.frames, ok.stk, ok.exf, ok.bs, ok.bsz, ok.noex, ok.exfs, ok.funs, ok.frf⟩
theorem Cx.Ok.unwish {X : Cx} {E : Value → Shared → Prop} (ok : (X.wish E).Ok) : X.Ok :=
 ⟨ok.mod, ok.kind, ok.glob, ok.blt, ok.above, ok.inj, ok.has, ok.cab, ok.hd, ok.frames, ok.stk, ok.exf, ok.bs, ok.bsz, ok.noex, ok.exfs, ok.funs, ok.frf⟩
section
variable {X : Cx} {pins : List (Addr × Obj)} {σ : St} {H : Hp} {s : Shared} {E : Value → Shared → Prop}
theorem Inv.wish (I : Inv X pins σ H s) (E : Value → Shared → Prop) : Inv (X.wish E) pins σ H s := ⟨I.ok.wish E, I.os, I.bare, I.base, I.loc, I.cell, I.free, I.freeC, I.pin, I.hok, I.len⟩
theorem Inv.unwish (I : Inv (X.wish E) pins σ H s) : Inv X pins σ H s := ⟨I.ok.unwish, I.os, I.bare, I.base, I.loc, I.cell, I.free, I.freeC, I.pin, I.hok, I.len⟩
theorem SP.unwish {D : Ends} {f : Flow} {s' : Shared} (h : SP (X.wish E) pins D f s') : SP X pins D f s' := by
 cases f with
 | next => obtain ⟨σ', H', I, q⟩ := h; exact ⟨σ', H', I.unwish, q⟩
 | brk => obtain ⟨σ', H', I, q⟩ := h; exact ⟨σ', H', I.unwish, q⟩
 | cont => obtain ⟨σ', H', I, q⟩ := h; exact ⟨σ', H', I.unwish, q⟩
 | ret u => obtain ⟨v, σ', H', I, r, q⟩ := h; exact ⟨v, σ', H', I.unwish, r, q⟩
theorem PSs.nox {st : List Stmt} {t : TS} (h : PSs X.nox st t) : PSs X st t := fun pins s σ H D I hw =>
 wpAny_mono (h pins s σ H D (I.wish _) hw) (fun _ _ q => q.unwish) fun _ _ z => False.elim z
end
section
variable {X : Cx} {st : Stmt} {rest : List Stmt} {t u : TS} {e : Expr} {te : TE} {pos : Pos}
def qju : TS := fun D σ H => D.nx σ H
def tSeq (t u : TS) : TS := fun D σ H => t { D with nx := u D } σ H
theorem q0b : PSs X [] qju := fun _ _ σ H _ I h => wpAny_execs_nil ⟨σ, H, I, h⟩
theorem q02 (h1 : PS X st t) (h2 : PSs X rest u) : PSs X (st :: rest) (tSeq t u) := by
 intro pins s σ H D I h
 refine wpAny_execs_cons (thn (h1 pins s σ H { D with nx := u D } I h) fun f s1 q => ?_)
 cases f with
 | next =>
  obtain ⟨σ', H', I', q⟩ := q
  exact h2 pins s1 σ' H' D I' q
 | ret v => exact q
 | brk => exact q
 | cont => exact q
theorem q06 (h1 : PS X st t) : PSs X [st] t := by
 intro pins s σ H D I h
 refine wpAny_execs_cons (thn (h1 pins s σ H D I h) fun f s1 q => ?_)
 cases f with
 | next => exact wpAny_execs_nil q
 | ret v => exact q
 | brk => exact q
 | cont => exact q
theorem Inv.quiet {pins : List (Addr × Obj)} {σ : St} {H : Hp} {s : Shared} (I : Inv X pins σ H s) : interactive X.env = false := by simp [interactive, I.ok.kind]
def qk2 (te : TE) : TS := fun D σ H => te σ H fun _ H1 => D.nx σ H1
theorem q21 (he : PE X e te) (hs : swapsWith e none pos.line X.env = pure false := by rfl) : PS X (.Expr e pos) (qk2 te) := by
 intro pins s σ H D I h
 exact wpAny_Expr_any (thn (he pins s σ H _ I h) fun v s1 ⟨x, H1, I1, r1, q1⟩ => ⟨σ, H1, I1, q1⟩) I.quiet hs
def tRet (te : TE) : TS := fun D σ H => te σ H D.rt
theorem q0a (he : PE X e te) : PS X (.Return (some e) pos) (tRet te) := by
 intro pins s σ H D I h
 exact wpAny_Return_some (thn (he pins s σ H _ I h) fun v s1 ⟨x, H1, I1, r1, q1⟩ => ⟨x, σ, H1, I1, r1, q1⟩)
def tIfS (c : TT) (t u : TS) : TS := fun D σ H => c σ H fun b H1 => if b = true then t D σ H1 else u D σ H1
theorem q0w {c : Expr} {a b : List Stmt} {tc : TT} (hc : PT X c tc) (ha : PSs X a t) (hb : PSs X b u) : PS X (.If c a b pos) (tIfS tc t u) := by
 intro pins s σ H D I h
 refine wpAny_If (thn (hc pins s σ H _ I h) fun d s1 ⟨H1, I1, q1⟩ => ?_)
 cases d with
 | true => exact ha pins s1 σ H1 D I1 q1
 | false => exact hb pins s1 σ H1 D I1 q1
def qif : TS := fun _ _ _ => False
theorem q3a : PS X st qif := fun _ _ _ _ _ _ h => h.elim
end
abbrev TG := V → St → Hp → (St → Hp → Prop) → Prop
abbrev TGs := List V → St → Hp → (St → Hp → Prop) → Prop
def PG (X : Cx) (target : Expr) (t : TG) : Prop :=
 ∀ (pins : List (Addr × Obj)) (s : Shared) (σ : St) (H : Hp) (v : V) (u : Value) (Q : St → Hp → Prop), Inv X pins σ H s → RelV v u → t v σ H Q →
  wpAny (model X.prog X.w) X.A (assign target X.env u) (fun _ s' => ∃ σ' H', Inv X pins σ' H' s' ∧ Q σ' H') X.xe s
def PGs (X : Cx) (ts : List Expr) (t : TGs) : Prop :=
 ∀ (pins : List (Addr × Obj)) (s : Shared) (σ : St) (H : Hp) (vs : List V) (us : List Value) (Q : St → Hp → Prop), Inv X pins σ H s → Vals vs us → t vs σ H Q →
  wpAny (model X.prog X.w) X.A (assignInOrder ((assignEach ts X.env).map (·.2)) us) (fun _ s' => ∃ σ' H', Inv X pins σ' H' s' ∧ Q σ' H') X.xe s
section
variable {X : Cx} {pos : Pos}
def qc4 (i : Nat) : TG := fun v σ H Q => Q (σ.set i (some v)) H
theorem q10 {i : Nat} {x : Str} (hN : X.N.Nodup) (hi : X.N[i]? = some x) (hx : Loc X.env.scope x) (hf : X.fn x = true ∨ X.env.scope.names.lookup x = some .local := by first | exact .inl rfl | exact .inr rfl | assumption) : PG X (.Name x pos) (qc4 i) := by
 intro pins s σ H v u Q I r h
 exact wpAny_assign_Name (q9c I hN hi hx r (fun s' I' => ⟨_, H, I', h⟩) hf)
def gNil : TGs := fun vs σ H Q => vs = [] ∧ Q σ H
def qk8 (t : TG) (u : TGs) : TGs := fun vs σ H Q => ∃ v r, vs = v :: r ∧ t v σ H fun σ' H' => u r σ' H' Q
theorem qbu : PGs X [] gNil := by
 intro pins s σ H vs us Q I r h
 obtain ⟨e, h⟩ := h
 subst e
 cases r
 exact assignInOrder_nil ⟨σ, H, I, h⟩
theorem q4o {e : Expr} {es : List Expr} {t : TG} {u : TGs} (h1 : PG X e t) (h2 : PGs X es u)
  (hs : (assignEach (e :: es) X.env).map (·.2) = assign e X.env :: (assignEach es X.env).map (·.2) := by rfl) : PGs X (e :: es) (qk8 t u) := by
 intro pins s σ H vs us Q I r h
 obtain ⟨v, vr, e1, h⟩ := h
 subst e1
 cases r with
 | cons r rr =>
  rw [hs]
  refine assignInOrder_cons (thn (h1 pins s σ H _ _ _ I r h) fun _ s1 ⟨σ1, H1, I1, q1⟩ => ?_)
  exact h2 pins s1 σ1 H1 _ _ Q I1 rr q1
def gTup (K : PySem.W.Frag) (n : Nat) (t : TGs) : TG := fun v σ H Q => ∃ a xs, v = .ref a ∧ SqT K H a xs ∧ xs.length = n ∧ t xs σ H Q
theorem qfh {es : List Expr} {k : Nat} {t : TGs} {n : Nat} (hc : X.calm = true) (h : PGs X es t)
  (hn : (assignEach es X.env).length = n := by rfl) (hst : (assignEach es X.env).findIdx? (·.1) = none := by rfl) : PG X (.Tuple es k pos) (gTup X.K n t) := by
 intro pins s σ H v u Q I r hw
 obtain ⟨a, xs, e1, hq, hl, hw⟩ := hw
 subst e1
 cases r
 obtain ⟨its, rv, ht, hz⟩ := I.tuple hq
 refine assign_Tuple_tuple (I.ok.hd hc) ht (by simp [hn, ← hl, rv.length]) hst fun h' hx => ?_
 have I1 : Inv X pins σ H { s with heap := h' } := I.kept (t' := s.toks) fun b o e => hx b o (Nat.ne_of_lt (Heap.lt_size e)) e
 exact h pins _ σ H xs _ Q I1 (by simpa using rv) hw
def tAsg (te : TE) (g : TG) : TS := fun D σ H => te σ H fun x H1 => g x σ H1 D.nx
theorem qhy {tg e : Expr} {te : TE} {g : TG} (he : PE X e te) (hg : PG X tg g) (hs : swapsWithSole [tg] e pos.line X.env = pure false := by rfl) (hw : swappedStores [tg] e X.env = pure none := by rfl)
  (h1 : (assignEach [tg] X.env).map (·.2) = [assign tg X.env] := by rfl) : PS X (.Assign [tg] e pos) (tAsg te g) := by
 intro pins s σ H D I h
 refine wpAny_Assign_stores (thn (he pins s σ H _ I h) fun v s1 ⟨x, H1, I1, r1, q1⟩ => ?_) hs hw
 rw [h1]
 exact thn (hg pins s1 σ H1 x v _ I1 r1 q1) fun _ s2 q => q
theorem q0r {i : Nat} {x : Str} {e : Expr} {te : TE} {pos' : Pos} (hN : X.N.Nodup) (hi : X.N[i]? = some x) (hx : Loc X.env.scope x) (he : PE X e te) (hs : swapsWith e (some (.Name x pos')) pos.line X.env = pure false := by rfl) (hf : X.fn x = true ∨ X.env.scope.names.lookup x = some .local := by first | exact .inl rfl | exact .inr rfl | assumption) :
  PS X (.Assign [.Name x pos'] e pos) (tAsg te (qc4 i)) := by
 intro pins s σ H D I h
 refine wpAny_Assign_Name (thn (he pins s σ H _ I h) fun v s1 ⟨y, H1, I1, r1, q1⟩ => ?_) hs
 exact q9c I1 hN hi hx r1 (fun s2 I2 => ⟨_, H1, I2, q1⟩) hf
end
section
variable {X : Cx} {pos : Pos}
end
structure It where
 go : Nat → Hp → Prop
 yld : Nat → Hp → V → Hp → Prop
 stop : Nat → Hp → Prop
def FpOk (X : Cx) (pins : List (Addr × Obj)) (H : Hp) (b : Addr) : Prop :=
 H b = none ∧ b ≠ X.env.locals ∧ b ∉ X.fs ∧ (b ∈ X.ex ∨ X.s₀.heap.objs.size ≤ b) ∧ (∀ x c, X.env.cells.lookup x = some c → c ≠ b) ∧ ∀ p ∈ X.pn ++ pins, p.1 ≠ b
theorem Inv.fpOk {X : Cx} {pins : List (Addr × Obj)} {σ : St} {H H' : Hp} {s : Shared} {b : Addr} (I : Inv X pins σ H s) (hb : s.heap.objs.size ≤ b) (hn : H' b = none) : FpOk X pins H' b := by
 refine ⟨hn, Nat.ne_of_gt (Nat.lt_of_lt_of_le I.lt hb), I.nofs hb, .inr (Nat.le_trans I.sz hb), fun x c e z => ?_, fun p hp z => ?_⟩
 ·obtain ⟨v, q⟩ := I.cell x c e
  exact absurd (Nat.lt_of_lt_of_le q.lt (by rw [z]; exact hb)) (Nat.lt_irrefl _)
 ·exact absurd (Nat.lt_of_lt_of_le (Heap.lt_size (I.pin p hp).1) (by rw [z]; exact hb)) (Nat.lt_irrefl _)
structure Turn (P : Program) (w : World) (K : PySem.W.Frag) (tg : Expr) (J : It) (fp : List Addr) (it : Addr) (tn : Nat → Heap → Prop) : Prop where
 mem : it ∈ fp
 obj : ∀ i h, tn i h → ∀ b ∈ fp, ∃ o, h.get? b = some o ∧ ∀ v, o.data ≠ .cell v
 keep : ∀ i h h', tn i h → (∀ b ∈ fp, ∀ o, h.get? b = some o → h'.get? b = some o) → tn i h'
 item : ∀ (X : Cx), X.prog = P → X.w = w → X.K = K → X.calm = true → ∀ (i : Nat) (pins : List (Addr × Obj)) (s : Shared) (σ : St) (H : Hp) (E : Value → Shared → Prop), Inv X pins σ H s → (∀ b ∈ fp, FpOk X pins H b) → tn i s.heap → J.go i H →
  wpAny (model P w) X.A (pyNext (.ref it)) (fun r s1 => ∃ u, r = some u ∧
   wpAny (model P w) X.A (letOwnedTupleGo tg (.ref it) u) (fun _ s2 => ∃ x H', Inv X pins σ H' s2 ∧ RelV x u ∧ J.yld i H x H' ∧ tn (i + 1) s2.heap ∧ ∀ b ∈ fp, H' b = none) E s1) E s
 done : ∀ (X : Cx), X.prog = P → X.w = w → X.K = K → X.calm = true → ∀ (i : Nat) (pins : List (Addr × Obj)) (s : Shared) (σ : St) (H : Hp) (E : Value → Shared → Prop), Inv X pins σ H s → (∀ b ∈ fp, FpOk X pins H b) → tn i s.heap → J.stop i H →
  wpAny (model P w) X.A (pyNext (.ref it)) (fun r s1 => r = none ∧ Inv X pins σ H s1) E s
 self : ∀ (A : Around) (i : Nat) (s : Shared) (Q : Value → Shared → Prop) (E : Value → Shared → Prop), tn i s.heap → Q (.ref it) s → wpAny (model P w) A (pyIter (.ref it)) Q E s
abbrev TI := St → Hp → (It → Hp → Prop) → Prop
def PIE (X : Cx) (pins : List (Addr × Obj)) (σ : St) (tg : Expr) (R : It → Hp → Prop) (itv : Value) (s2 : Shared) : Prop :=
 ∃ (it : Addr) (fp : List Addr) (tn : Nat → Heap → Prop) (J : It) (H' : Hp), itv = .ref it ∧ Inv X pins σ H' s2 ∧ Turn X.prog X.w X.K tg J fp it tn ∧ tn 0 s2.heap ∧ (∀ b ∈ fp, FpOk X pins H' b) ∧ R J H'
def PI (X : Cx) (tg iter : Expr) (wi : TI) : Prop :=
 ∀ (pins : List (Addr × Obj)) (s : Shared) (σ : St) (H : Hp) (R : It → Hp → Prop), Inv X pins σ H s → wi σ H R →
  wpAny (model X.prog X.w) X.A (eval iter X.env) (fun v s1 => wpAny (model X.prog X.w) X.A (pyIter v) (PIE X pins σ tg R) X.xe s1) X.xe s
theorem qjj {M : Model} {A : Around} {E : Value → Shared → Prop} {s : Shared} {tg : Expr} {it : Addr} {u : Value} {o : Obj} {n : String} {vs : Array Value} {Q : Unit → Shared → Prop} (ho : s.heap.get? it = some o) (hc : o.cls = .type n) (hd : o.data = .fields vs)
    (hn : ["enumerate", "zip", "dict_itemiterator", "dict_reverseitemiterator", "odict_iterator", "itertools.zip_longest", "itertools.pairwise"].contains n = false) (hQ : Q () s) : wpAny M A (letOwnedTupleGo tg (.ref it) u) Q E s := by
  unfold letOwnedTupleGo
  cases tg <;> first
    | exact wpAny_pure hQ
    | (cases u <;> first
        | exact wpAny_pure hQ
        | (refine wpAny_bind (wpAny_load ho ?_)
           rw [hc, hd]
           show wpAny M A (if (["enumerate", "zip", "dict_itemiterator", "dict_reverseitemiterator", "odict_iterator", "itertools.zip_longest", "itertools.pairwise"].contains n && vs[0]? == some (rawInt _)) = true then _ else _) Q E s
           rw [if_neg (by intro h; rw [hn, Bool.false_and] at h; cases h)]
           exact wpAny_pure hQ))
def Itl (K : PySem.W.Frag) (a : Addr) : It :=
 ⟨fun i H => ∃ xs x, SqL K H a xs ∧ xs[i]? = some x, fun i H x H' => H' = H ∧ ∀ xs, SqL K H a xs → xs[i]? = some x, fun i H => ∃ xs, SqL K H a xs ∧ xs.length ≤ i⟩
def Itr (lo : Int) (n : Nat) : It := ⟨fun i _ => i < n, fun i H x H' => H' = H ∧ x = .int (lo + i), fun i _ => n ≤ i⟩
theorem qc7 {P : Program} {w : World} {K : PySem.W.Frag} {tg : Expr} (a it : Addr) : Turn P w K tg (Itl K a) [it] it (fun i h => h.IsListIter it a i) where
 mem := by simp
 obj := fun i h st b hb => by
  have e : b = it := by simpa using hb
  subst e
  obtain ⟨o, e, c, d⟩ := st
  exact ⟨o, e, fun v z => by rw [d] at z; cases z⟩
 keep := fun i h h' st k => st.at fun o e => k it (by simp) o e
 item := by
  intro X hP hw hK hc i pins s σ H E I hf st hg
  subst hP hw hK
  obtain ⟨xs, x, hq, hx⟩ := hg
  obtain ⟨its, rv, p, hz⟩ := I.list hq
  obtain ⟨u, hu, ru⟩ := rv.get hx
  obtain ⟨f0, f1, f2, f3, f4, f5⟩ := hf it (by simp)
  refine wpAny_pyNext_list_item st p.isList (x := u) (by simpa using hu) fun h' st' sb => ?_
  have I1 : Inv X pins σ H { s with heap := h' } := I.turned (t' := s.toks) (fun b o hb e => (sb.2 b hb).trans e) f0 f1 f3 f4 f5
  obtain ⟨o, e, c, d⟩ := id st'
  exact ⟨u, rfl, qjj (s := { s with heap := h' }) e c d (by decide) ⟨x, H, I1, ru, ⟨rfl, fun ys hy => by rw [I.list_inj hy hq]; exact hx⟩, st', fun b hb => (hf b hb).1⟩⟩
 done := by
  intro X hP hw hK hc i pins s σ H E I hf st hg
  subst hP hw hK
  obtain ⟨xs, hq, hx⟩ := hg
  obtain ⟨its, rv, p, hz⟩ := I.list hq
  obtain ⟨f0, f1, f2, f3, f4, f5⟩ := hf it (by simp)
  have hl := rv.length
  exact wpAny_pyNext_list_end (I.ok.hd hc) st p.isList (by simp; omega) fun h' eb => ⟨rfl, I.turned (t' := s.toks) (fun b o hb e => eb b o hb e) f0 f1 f3 f4 f5⟩
 self := fun _ _ _ _ _ st h => wpAny_pyIter_listiter st h
theorem qam {P : Program} {w : World} {K : PySem.W.Frag} {tg : Expr} (it : Addr) (lo : Int) (n : Nat) : Turn P w K tg (Itr lo n) [it] it (fun i h => IsRangeIter h it (lo + (i : Nat) * 1) ((n : Int) - (i : Nat)) 1) where
 mem := by simp
 obj := fun i h st b hb => by
  have e : b = it := by simpa using hb
  subst e
  exact ⟨_, st, fun v z => by
   have z' : Data.fields _ = Data.cell v := z
   cases z'⟩
 keep := fun i h h' st k => k it (by simp) _ st
 item := by
  intro X hP hw hK hc i pins s σ H E I hf st hg
  subst hP hw hK
  obtain ⟨f0, f1, f2, f3, f4, f5⟩ := hf it (by simp)
  have W := Walks.range (prog := X.prog) (w := X.w) (I.ok.hd hc) it lo 1 n
  refine W.item i s _ _ hg st fun v h' tk hv st' kk => ?_
  obtain ⟨t, rfl⟩ := hv
  have I1 : Inv X pins σ H { s with heap := h', toks := tk } := I.turned (fun b o hb e => kk b o (by simpa using hb) e) f0 f1 f3 f4 f5
  refine ⟨_, rfl, qjj (s := { s with heap := h', toks := tk }) (n := "range_iterator") st' rfl rfl (by decide) ⟨.int (lo + i), H, I1, ⟨t, ?_⟩, ⟨rfl, rfl⟩, st', fun b hb => (hf b hb).1⟩⟩
  rw [Int.mul_one]
 done := by
  intro X hP hw hK hc i pins s σ H E I hf st hg
  subst hP hw hK
  obtain ⟨f0, f1, f2, f3, f4, f5⟩ := hf it (by simp)
  exact wpAny_pyNext_range_end (I.ok.hd hc) st (by have : n ≤ i := hg; omega) fun h' eb => ⟨rfl, I.turned (t' := s.toks) (fun b o hb e => eb b o hb e) f0 f1 f3 f4 f5⟩
 self := fun _ _ _ _ _ st h => wpAny_pyIter_rangeiter st h
end L2
namespace L2
open PySem PySem.Spec PyProof.Rows
section
variable {X : Cx} {tg : Expr}
def qh9 (K : PySem.W.Frag) (tl : TE) : TI := fun σ H R => tl σ H fun x H1 => ∃ a, x = .ref a ∧ (∃ xs, SqL K H1 a xs) ∧ R (Itl K a) H1
theorem q1j {l : Expr} {tl : TE} (hl : PE X l tl) : PI X tg l (qh9 X.K tl) := by
 intro pins s σ H R I h
 refine thn (hl pins s σ H _ I h) fun v s1 ⟨x, H1, I1, r1, q1⟩ => ?_
 obtain ⟨a, e, ⟨xs, hq⟩, q⟩ := q1
 subst e
 cases r1
 obtain ⟨its, rv, p, hz⟩ := I1.list hq
 refine wpAny_pyIter_list p.isList ?_
 refine ⟨s1.heap.objs.size, [s1.heap.objs.size], _, _, H1, rfl, I1.kept (t' := s1.toks) fun b o e => Heap.get?_push_of_some _ e, qc7 a _, ⟨_, Heap.get?_push_size _ rfl, rfl, rfl⟩, fun b hb => ?_, q⟩
 have e : b = s1.heap.objs.size := by simpa using hb
 subst e
 exact I1.fpOk (Nat.le_refl _) (I1.hok.fresh (Nat.le_refl _))
theorem qdp {pins : List (Addr × Obj)} {σ : St} {H : Hp} {s : Shared} {R : It → Hp → Prop} {E : Value → Shared → Prop} {lo hi : Int} {t u v : Tok} {tk : Nat} (I : Inv X pins σ H s) (h1 : -(2 ^ 62) ≤ lo) (h2 : lo < 2 ^ 62) (h3 : -(2 ^ 62) ≤ hi) (h4 : hi < 2 ^ 62)
  (q : R (Itr lo (hi - lo).toNat) H) : wpAny (model X.prog X.w) X.A (pyIter (.ref s.heap.objs.size)) (PIE X pins σ tg R) E { s with heap := s.heap.push { cls := .type "range", data := .fields #[.int lo t, .int hi u, .int 1 v] }, toks := tk } := by
 refine wpAny_pyIter_range (IsRange.new ..) (small_one h1 h2 h3 h4) ?_
 have I1 : Inv X pins σ H { s with heap := s.heap.push { cls := .type "range", data := .fields #[.int lo t, .int hi u, .int 1 v] }, toks := tk } := I.kept fun b o e => Heap.get?_push_of_some _ e
 refine ⟨(s.heap.push { cls := .type "range", data := .fields #[.int lo t, .int hi u, .int 1 v] }).objs.size, [(s.heap.push { cls := .type "range", data := .fields #[.int lo t, .int hi u, .int 1 v] }).objs.size], _, _, H, rfl,
  I1.kept (t' := tk) fun b o e => Heap.get?_push_of_some _ e, qam _ lo (hi - lo).toNat, ?_, fun b hb => ?_, q⟩
 ·have e1 : lo + ((0 : Nat) : Int) * 1 = lo := by simp
  have e2 : (((hi - lo).toNat : Nat) : Int) - ((0 : Nat) : Int) = Builtin.Range.rangeSize lo hi 1 := by rw [rangeSize_one]; split <;> omega
  show IsRangeIter _ _ (lo + ((0 : Nat) : Int) * 1) ((((hi - lo).toNat : Nat) : Int) - ((0 : Nat) : Int)) 1
  rw [e1, e2]
  exact Heap.get?_push_size _ rfl
 ·have e : b = (s.heap.push { cls := .type "range", data := .fields #[.int lo t, .int hi u, .int 1 v] }).objs.size := by simpa using hb
  subst e
  exact I1.fpOk (Nat.le_refl _) (I1.hok.fresh (Nat.le_refl _))
def qjt (ta : TA) : TI := fun σ H R => ta σ H fun vs H1 => ∃ j : Int, vs = [.int j] ∧ -(2 ^ 62) ≤ j ∧ j < 2 ^ 62 ∧ R (Itr 0 j.toNat) H1
theorem q2j {a : Expr} {ta : TA} {p pos : Pos} (hg : Gl X "range") (hm : X.mg "range" = none) (ha : PA X [a] ta) (hs : starEach [a] X.env = [(false, eval a X.env)] := by rfl) : PI X tg (.Call (.Name "range" p) [a] [] pos) (qjt ta) := by
 intro pins s σ H R I h
 refine Call_ (q8s I hg hm boot_range (PyProof.Rows.callWith_type1 (thn (ha pos pins s σ H _ I h) fun us s1 ⟨vs, H1, I1, r1, q1⟩ => ?_) hs rfl))
 obtain ⟨j, e, q1, q2, q⟩ := q1
 subst e
 cases r1 with
 | cons r rr =>
  cases rr
  obtain ⟨t, rfl⟩ := r
  exact call_range_1 (qdp I1 (by omega) (by omega) q1 q2 (by simpa using q))
def tFor (wi : TI) (g : TG) (tb : TS) : TS := fun D σ H => wi σ H fun J H1 => ∃ W : Nat → Nat → St → Hp → Prop, (∃ m, W 0 m σ H1) ∧ ∀ i m σ H, W i m σ H →
 (J.stop i H ∧ D.nx σ H) ∨ (J.go i H ∧ ∃ N : St → Hp → Prop, (∀ σ' H', N σ' H' → ∃ m', m' < m ∧ W (i + 1) m' σ' H') ∧ ∀ x H', J.yld i H x H' → g x σ H' fun σ2 H2 => tb { D with nx := N, ct := N, bk := D.nx } σ2 H2)
def q5o (fp : List Addr) (h : Heap) : List (Addr × Obj) := fp.filterMap fun b => (h.get? b).map fun o => (b, o)
theorem q2d {fp : List Addr} {h : Heap} {b : Addr} {o : Obj} (hb : b ∈ fp) (e : h.get? b = some o) : (b, o) ∈ q5o fp h := List.mem_filterMap.mpr ⟨b, hb, by rw [e]; rfl⟩
theorem qb0 {fp : List Addr} {h : Heap} {p : Addr × Obj} (hp : p ∈ q5o fp h) : p.1 ∈ fp ∧ h.get? p.1 = some p.2 := by
 obtain ⟨b, hb, e⟩ := List.mem_filterMap.mp hp
 cases q : h.get? b with
 | none => rw [q] at e; cases e
 | some o =>
  rw [q] at e
  have e' : (b, o) = p := Option.some.inj e
  subst e'
  exact ⟨hb, q⟩
theorem Inv.pinned {pins : List (Addr × Obj)} {σ : St} {H : Hp} {s : Shared} {fp : List Addr} (I : Inv X pins σ H s) (hf : ∀ b ∈ fp, FpOk X pins H b) (ho : ∀ b ∈ fp, ∃ o, s.heap.get? b = some o ∧ ∀ v, o.data ≠ .cell v) : Inv X (pins ++ q5o fp s.heap) σ H s :=
 I.pins_of fun p hp => (List.mem_append.mp hp).elim (fun z => I.pin p (List.mem_append_right _ z)) fun z => by
  obtain ⟨hb, e⟩ := qb0 z
  obtain ⟨f0, f1, f2, _⟩ := hf p.1 hb
  obtain ⟨o, e', d⟩ := ho p.1 hb
  rw [e] at e'; cases e'
  exact ⟨e, f0, f1, f2, d⟩
theorem Inv.unpinned {pins pl : List (Addr × Obj)} {σ : St} {H : Hp} {s : Shared} (I : Inv X (pins ++ pl) σ H s) : Inv X pins σ H s := I.pins_of fun p hp => I.pin p (List.mem_append_right _ (List.mem_append_left _ hp))
theorem q25 {iter : Expr} {body : List Stmt} {wi : TI} {g : TG} {tb : TS} {pos : Pos} (hp : PassesOwn (model X.prog X.w) X.A X.env X.xe) (hc : X.calm = true) (hi : PI X tg iter wi) (hg : PG X tg g) (hb : PSs X body tb)
  (hs : ∀ x, foldedSetIterable iter X.env x = pure x := by intro _; rfl) : PS X (.For tg iter body [] pos) (tFor wi g tb) := by
 intro pins s σ H D I h
 refine wpAny_For (thn (hi pins s σ H _ I h) fun v s1 h1 => thn h1 fun itv s2 h2 => ?_) hs
 obtain ⟨it, fp, tn, J, H2, e, I2, T, st2, f2, W, ⟨m0, w0⟩, turn⟩ := h2
 subst e
 have stat : ∀ {H' : Hp}, (∀ b ∈ fp, H' b = none) → ∀ b ∈ fp, FpOk X pins H' b := fun hn b hb => ⟨hn b hb, (f2 b hb).2⟩
 refine codeAny_forLoop_any (fun n s' => ∃ i σ' H', Inv X pins σ' H' s' ∧ tn i s'.heap ∧ (∀ b ∈ fp, H' b = none) ∧ W i n σ' H') ?_ m0 ⟨0, σ, H2, I2, st2, fun b hb => (f2 b hb).1, w0⟩
 rintro n s3 ⟨i, σ3, H3, I3, st3, fr3, w3⟩
 rcases turn i n σ3 H3 w3 with ⟨stop, qn⟩ | ⟨go, N, hN, step⟩
 ·refine wpAny_passesOwn hp (thn (T.done X rfl rfl rfl hc i pins s3 σ3 H3 X.xe I3 (stat fr3) st3 stop) fun r s4 ⟨hr, I4⟩ => ?_)
  subst hr
  exact wpAny_execs_nil ⟨σ3, H3, I4, qn⟩
 ·refine wpAny_passesOwn hp (thn (T.item X rfl rfl rfl hc i pins s3 σ3 H3 X.xe I3 (stat fr3) st3 go) fun r s4 ⟨u, hr, h4⟩ => ?_)
  subst hr
  refine wpAny_passesOwn hp (thn h4 fun _ s5 ⟨x, H5, I5, r5, y5, st5, fr5⟩ => ?_)
  have I5' := I5.pinned (stat fr5) (T.obj _ _ st5)
  refine wpAny_passesOwn hp (thn (hg _ s5 σ3 H5 x u _ I5' r5 (step x H5 y5)) fun _ s6 ⟨σ6, H6, I6, q6⟩ => ?_)
  refine wpAny_passesOwn hp (thn (hb _ s6 σ6 H6 _ I6 q6) fun f s7 q7 => ?_)
  have again : ∀ {σ7 : St} {H7 : Hp}, Inv X (pins ++ q5o fp s5.heap) σ7 H7 s7 → N σ7 H7 → ∃ m, m < n ∧ ∃ i σ' H', Inv X pins σ' H' s7 ∧ tn i s7.heap ∧ (∀ b ∈ fp, H' b = none) ∧ W i m σ' H' := fun {σ7 H7} I7 n7 => by
   obtain ⟨m', hm, w7⟩ := hN σ7 H7 n7
   refine ⟨m', hm, i + 1, σ7, H7, I7.unpinned, T.keep _ _ _ st5 fun b hb o e => (I7.pin (b, o) (List.mem_append_right _ (List.mem_append_right _ (q2d hb e)))).1, fun b hb => ?_, w7⟩
   obtain ⟨o, e, d⟩ := T.obj _ _ st5 b hb
   exact (I7.pin (b, o) (List.mem_append_right _ (List.mem_append_right _ (q2d hb e)))).2.1
  cases f with
  | next => obtain ⟨σ7, H7, I7, n7⟩ := q7; exact again I7 n7
  | cont => obtain ⟨σ7, H7, I7, n7⟩ := q7; exact again I7 n7
  | brk => obtain ⟨σ7, H7, I7, q7⟩ := q7; exact ⟨σ7, H7, I7.unpinned, q7⟩
  | ret v => obtain ⟨x7, σ7, H7, I7, r7, q7⟩ := q7; exact ⟨x7, σ7, H7, I7.unpinned, r7, q7⟩
end
theorem q1u {K : PySem.W.Frag} {a : Addr} {xs : List V} {g : TG} {tb : TS} {D : Ends} {σ : St} {H : Hp} (Pv : Nat → St → Hp → Prop) (h0 : Pv 0 σ H) (hl : ∀ i σ H, i ≤ xs.length → Pv i σ H → SqL K H a xs)
  (hs : ∀ i x σ H, xs[i]? = some x → Pv i σ H → g x σ H fun σ2 H2 => tb { D with nx := Pv (i + 1), ct := Pv (i + 1), bk := D.nx } σ2 H2) (hd : ∀ σ H, Pv xs.length σ H → D.nx σ H) :
  ∃ W : Nat → Nat → St → Hp → Prop, (∃ m, W 0 m σ H) ∧ ∀ i m σ H, W i m σ H →
   ((Itl K a).stop i H ∧ D.nx σ H) ∨ ((Itl K a).go i H ∧ ∃ N : St → Hp → Prop, (∀ σ' H', N σ' H' → ∃ m', m' < m ∧ W (i + 1) m' σ' H') ∧ ∀ x H', (Itl K a).yld i H x H' → g x σ H' fun σ2 H2 => tb { D with nx := N, ct := N, bk := D.nx } σ2 H2) := by
 refine ⟨fun i m σ H => m = xs.length - i ∧ i ≤ xs.length ∧ Pv i σ H, ⟨xs.length, by simp, Nat.zero_le _, h0⟩, ?_⟩
 rintro i m σ H ⟨rfl, hi, p⟩
 have q := hl i σ H hi p
 by_cases hlt : i < xs.length
 ·refine .inr ⟨⟨xs, xs[i], q, by simp [hlt]⟩, Pv (i + 1), fun σ' H' p' => ⟨xs.length - (i + 1), by omega, rfl, hlt, p'⟩, fun x H' y => ?_⟩
  obtain ⟨e, y⟩ := y
  subst e
  exact hs i x σ _ (y xs q) p
 ·have e : i = xs.length := by omega
  subst e
  exact .inl ⟨⟨xs, q, Nat.le_refl _⟩, hd σ H p⟩
theorem q2i {lo : Int} {n : Nat} {g : TG} {tb : TS} {D : Ends} {σ : St} {H : Hp} (Pv : Nat → St → Hp → Prop) (h0 : Pv 0 σ H)
  (hs : ∀ i σ H, i < n → Pv i σ H → g (.int (lo + i)) σ H fun σ2 H2 => tb { D with nx := Pv (i + 1), ct := Pv (i + 1), bk := D.nx } σ2 H2) (hd : ∀ σ H, Pv n σ H → D.nx σ H) :
  ∃ W : Nat → Nat → St → Hp → Prop, (∃ m, W 0 m σ H) ∧ ∀ i m σ H, W i m σ H →
   ((Itr lo n).stop i H ∧ D.nx σ H) ∨ ((Itr lo n).go i H ∧ ∃ N : St → Hp → Prop, (∀ σ' H', N σ' H' → ∃ m', m' < m ∧ W (i + 1) m' σ' H') ∧ ∀ x H', (Itr lo n).yld i H x H' → g x σ H' fun σ2 H2 => tb { D with nx := N, ct := N, bk := D.nx } σ2 H2) := by
 refine ⟨fun i m σ H => m = n - i ∧ i ≤ n ∧ Pv i σ H, ⟨n, by simp, Nat.zero_le _, h0⟩, ?_⟩
 rintro i m σ H ⟨rfl, hi, p⟩
 by_cases hlt : i < n
 ·refine .inr ⟨hlt, Pv (i + 1), fun σ' H' p' => ⟨n - (i + 1), by omega, rfl, hlt, p'⟩, fun x H' y => ?_⟩
  obtain ⟨e, y⟩ := y
  subst e y
  exact hs i σ _ hlt p
 ·have e : i = n := by omega
  subst e
  exact .inl ⟨Nat.le_refl _, hd σ H p⟩
end L2
namespace L2
open PySem PySem.Spec PyProof.Rows
abbrev R2 := V → V → Hp → VK → Prop
def OpR (X : Cx) (f : Value → Value → Sem Value) (r : R2) : Prop :=
 ∀ (pins : List (Addr × Obj)) (s : Shared) (σ : St) (H : Hp) (x y : V) (v u : Value) (Q : VK), Inv X pins σ H s → RelV x v → RelV y u → r x y H Q →
  wpAny (model X.prog X.w) X.A (f v u) (EP X pins σ Q) X.xe s
def UnR (X : Cx) (f : Value → Sem Value) (r : V → Hp → VK → Prop) : Prop :=
 ∀ (pins : List (Addr × Obj)) (s : Shared) (σ : St) (H : Hp) (x : V) (v : Value) (Q : VK), Inv X pins σ H s → RelV x v → r x H Q →
  wpAny (model X.prog X.w) X.A (f v) (EP X pins σ Q) X.xe s
def q55 (X : Cx) (f : Value) (r : List V → Hp → VK → Prop) : Prop :=
 ∀ (pins : List (Addr × Obj)) (s : Shared) (σ : St) (H : Hp) (xs : List V) (us : List Value) (Q : VK), Inv X pins σ H s → Vals xs us → r xs H Q →
  wpAny (model X.prog X.w) X.A (call f us) (EP X pins σ Q) X.xe s
def TruR (X : Cx) (r : V → Hp → (Bool → Hp → Prop) → Prop) : Prop :=
 ∀ (pins : List (Addr × Obj)) (s : Shared) (σ : St) (H : Hp) (x : V) (v : Value) (Q : Bool → Hp → Prop), Inv X pins σ H s → RelV x v → r x H Q →
  wpAny (model X.prog X.w) X.A (truthy v) (TP X pins σ Q) X.xe s
def tOp (r : R2) (ta tb : TE) : TE := fun σ H Q => ta σ H fun x H1 => tb σ H1 fun y H2 => r x y H2 Q
def tUn (r : V → Hp → VK → Prop) (ta : TE) : TE := fun σ H Q => ta σ H fun x H1 => r x H1 Q
def rI (C : Int → Int → Prop) (g : Int → Int → V) : R2 := fun x y H Q => ∃ i j, x = .int i ∧ y = .int j ∧ C i j ∧ Q (g i j) H
def rI0 (g : Int → Int → V) : R2 := fun x y H Q => ∃ i j, x = .int i ∧ y = .int j ∧ Q (g i j) H
def rU (g : Int → V) : V → Hp → VK → Prop := fun x H Q => ∃ i, x = .int i ∧ Q (g i) H
section
variable {X : Cx} {a b c : Expr} {ta tb tc : TE} {pos : Pos}
theorem binT (ha : PE X a ta) (hb : PE X b tb) {pins : List (Addr × Obj)} {s : Shared} {σ : St} {H : Hp} {R : V → V → Hp → Prop} (I : Inv X pins σ H s)
  (h : ta σ H fun x H1 => tb σ H1 fun y H2 => R x y H2) {Q : Value → Shared → Prop} {f : Value → Value → Sem Value}
  (hf : ∀ v u s2 x y H2, Inv X pins σ H2 s2 → RelV x v → RelV y u → R x y H2 → wpAny (model X.prog X.w) X.A (f v u) Q X.xe s2) :
  wpAny (model X.prog X.w) X.A (eval a X.env) (fun v s₁ => wpAny (model X.prog X.w) X.A (eval b X.env) (fun u s₂ => wpAny (model X.prog X.w) X.A (f v u) Q X.xe s₂) X.xe s₁) X.xe s := by
 refine thn (ha pins s σ H _ I h) fun v s1 ⟨x, H1, I1, r1, q1⟩ => ?_
 refine thn (hb pins s1 σ H1 _ I1 q1) fun u s2 ⟨y, H2, I2, r2, q2⟩ => ?_
 exact hf v u s2 x y H2 I2 r1 r2 q2
theorem q0d {op : Operator} {r : R2} (ho : OpR X (binaryOp op) r) (ha : PE X a ta) (hb : PE X b tb) : PE X (.BinOp a op b pos) (tOp r ta tb) := by
 intro pins s σ H Q I h
 exact wpAny_BinOp (binT ha hb I h fun v u s2 x y H2 I2 rx ry q => ho pins s2 σ H2 x y v u Q I2 rx ry q)
theorem qg8 {op : UnaryOp} {r : V → Hp → VK → Prop} (ho : UnR X (unaryOp op) r) (ha : PE X a ta) : PE X (.UnaryOp op a pos) (tUn r ta) := by
 intro pins s σ H Q I h
 exact UnaryOp_ (thn (ha pins s σ H _ I h) fun v s1 ⟨x, H1, I1, r1, q1⟩ => ho pins s1 σ H1 x v Q I1 r1 q1)
theorem opI {f : Value → Value → Sem Value} {C : Int → Int → Prop} {g : Int → Int → Int}
  (rule : ∀ (i j : Int) (t u : Tok) (s : Shared) (Q : Value → Shared → Prop) (E : Value → Shared → Prop), C i j → Q (.int (g i j) s.toks) { s with toks := s.toks + 1 } → wpAny (model X.prog X.w) X.A (f (.int i t) (.int j u)) Q E s) :
  OpR X f (rI C fun i j => .int (g i j)) := by
 intro pins s σ H x y v u Q I rx ry h
 obtain ⟨i, j, rfl, rfl, hc, q⟩ := h
 obtain ⟨t, rfl⟩ := rx
 obtain ⟨t', rfl⟩ := ry
 exact rule i j t t' s _ _ hc ⟨.int (g i j), H, I.tok _, ⟨_, rfl⟩, q⟩
theorem opI0 {f : Value → Value → Sem Value} {g : Int → Int → Int}
  (rule : ∀ (i j : Int) (t u : Tok) (s : Shared) (Q : Value → Shared → Prop) (E : Value → Shared → Prop), Q (.int (g i j) s.toks) { s with toks := s.toks + 1 } → wpAny (model X.prog X.w) X.A (f (.int i t) (.int j u)) Q E s) :
  OpR X f (rI0 fun i j => .int (g i j)) := by
 intro pins s σ H x y v u Q I rx ry h
 obtain ⟨i, j, rfl, rfl, q⟩ := h
 obtain ⟨t, rfl⟩ := rx
 obtain ⟨t', rfl⟩ := ry
 exact rule i j t t' s _ _ ⟨.int (g i j), H, I.tok _, ⟨_, rfl⟩, q⟩
theorem opB0 {f : Value → Value → Sem Value} {g : Int → Int → Bool}
  (rule : ∀ (i j : Int) (t u : Tok) (s : Shared) (Q : Value → Shared → Prop) (E : Value → Shared → Prop), Q (.bool (g i j)) s → wpAny (model X.prog X.w) X.A (f (.int i t) (.int j u)) Q E s) :
  OpR X f (rI0 fun i j => .bl (g i j)) := by
 intro pins s σ H x y v u Q I rx ry h
 obtain ⟨i, j, rfl, rfl, q⟩ := h
 obtain ⟨t, rfl⟩ := rx
 obtain ⟨t', rfl⟩ := ry
 exact rule i j t t' s _ _ ⟨.bl (g i j), H, I, rfl, q⟩
def CDiv (i j : Int) : Prop := 0 < j ∧ j < 1073741824
def CMul (i j : Int) : Prop := (-(2 ^ 64) < i ∧ i < 2 ^ 64) ∨ (-(2 ^ 64) < j ∧ j < 2 ^ 64)
theorem CMul.ok {i j : Int} (h : CMul i j) : IntMulOk i j := by
 rcases h with ⟨h1, h2⟩ | ⟨h1, h2⟩
 ·exact .of_left (intBits_le_64 h1 h2)
 ·exact .of_right (intBits_le_64 h1 h2)
theorem q24 : OpR X (binaryOp .Add) (rI0 fun i j => .int (i + j)) := opI0 fun _ _ _ _ _ _ _ q => add_int q
theorem q4j : OpR X (binaryOp .Sub) (rI0 fun i j => .int (i - j)) := opI0 fun _ _ _ _ _ _ _ q => sub_int q
theorem q1b : OpR X (binaryOp .Mult) (rI CMul fun i j => .int (i * j)) := opI fun _ _ _ _ _ _ _ hc q => mul_int q hc.ok
theorem q2u : OpR X (binaryOp .FloorDiv) (rI CDiv fun i j => .int (i / j)) := opI fun i j _ _ _ _ _ hc q => by
 have h1 : (0 : Int) < j := hc.1
 have h2 : j < 1073741824 := hc.2
 exact floordiv_int (by omega) (by rw [Int.fdiv_eq_ediv_of_nonneg i (by omega)]; exact q) (.inl (PyProof.noPylong_small (by omega)))
theorem q0p : OpR X (binaryOp .Mod) (rI (fun _ j => 0 < j) fun i j => .int (i % j)) := opI fun i j _ _ _ _ _ hc q => by
 have h1 : (0 : Int) < j := hc
 exact mod_int' (by omega) (by rw [Int.fmod_eq_emod_of_nonneg i (by omega)]; exact q)
theorem unI {f : Value → Sem Value} {g : Int → Int}
  (rule : ∀ (i : Int) (t : Tok) (s : Shared) (Q : Value → Shared → Prop) (E : Value → Shared → Prop), Q (.int (g i) s.toks) { s with toks := s.toks + 1 } → wpAny (model X.prog X.w) X.A (f (.int i t)) Q E s) :
  UnR X f (rU fun i => .int (g i)) := by
 intro pins s σ H x v Q I rx h
 obtain ⟨i, rfl, q⟩ := h
 obtain ⟨t, rfl⟩ := rx
 exact rule i t s _ _ ⟨.int (g i), H, I.tok _, ⟨_, rfl⟩, q⟩
theorem qbz : UnR X (unaryOp .USub) (rU fun i => .int (-i)) := unI fun _ _ _ _ _ q => neg_int q
end
def scal : V → V → Bool
 | .non, .non => true | .non, .int _ => true | .int _, .non => true | .non, .bl _ => true | .bl _, .non => true | .non, .str _ => true | .str _, .non => true
 | .int _, .int _ => true | .bl _, .bl _ => true | .str _, .str _ => true | .byt _, .byt _ => true
 | .int _, .str _ => true | .str _, .int _ => true | .bl _, .str _ => true | .str _, .bl _ => true
 | _, _ => false
def rEq : R2 := fun x y H Q => scal x y = true ∧ Q (.bl (decide (x = y))) H
def rNe : R2 := fun x y H Q => scal x y = true ∧ Q (.bl (!decide (x = y))) H
theorem qbo {i j : Int} : decide (V.int i = V.int j) = (i == j) := by
 rw [Bool.eq_iff_iff]
 simp
theorem qf1 {i j : Bool} : decide (V.bl i = V.bl j) = (i == j) := by
 rw [Bool.eq_iff_iff]
 simp
theorem qbk {i j : Str} : decide (V.str i = V.str j) = (i == j) := by
 rw [Bool.eq_iff_iff]
 simp
theorem qd1 {i j : Array UInt8} : decide (V.byt i = V.byt j) = (i.toList == j.toList) := by
 rw [Bool.eq_iff_iff]
 cases i
 cases j
 simp
section
variable {X : Cx} {a b c : Expr} {ta tb tc : TE} {pos : Pos}
theorem q17 {pins : List (Addr × Obj)} {σ : St} {H : Hp} {s : Shared} {Q : VK} {k k' : Bool} (I : Inv X pins σ H s) (q : Q (.bl k) H) (e : k = k') : EP X pins σ Q (.bool k') s := by
 subst e
 exact ⟨.bl k, H, I, rfl, q⟩
theorem q23 : OpR X (compareOp .Eq) rEq := by
 intro pins s σ H x y v u Q I rx ry h
 obtain ⟨hs, q⟩ := h
 cases x with
 | non =>
  cases rx
  cases y with
  | non => cases ry; exact PySem.EqNone.eq_none_none (q17 I q (by simp))
  | bl j => cases ry; exact PySem.EqNone.eq_none_bool (q17 I q (by simp))
  | int j => obtain ⟨t', rfl⟩ := ry; exact PySem.EqNone.eq_none_int (q17 I q (by simp))
  | str j => obtain ⟨t', rfl⟩ := ry; exact PySem.EqNone.eq_none_str (q17 I q (by simp))
  | _ => exact absurd (show false = true from hs) Bool.false_ne_true
 | bl i =>
  cases rx
  cases y with
  | non => cases ry; exact PySem.EqNone.eq_bool_none (q17 I q (by simp))
  | bl j => cases ry; exact eq_bool (q17 I q qf1)
  | str j => obtain ⟨t', rfl⟩ := ry; exact PySem.EqMixed.eq_bool_str (q17 I q (by simp))
  | _ => exact absurd (show false = true from hs) Bool.false_ne_true
 | int i =>
  obtain ⟨t, rfl⟩ := rx
  cases y with
  | non => cases ry; exact PySem.EqNone.eq_int_none (q17 I q (by simp))
  | int j => obtain ⟨t', rfl⟩ := ry; exact eq_int (q17 I q qbo)
  | str j => obtain ⟨t', rfl⟩ := ry; exact PySem.EqMixed.eq_int_str (q17 I q (by simp))
  | _ => exact absurd (show false = true from hs) Bool.false_ne_true
 | str i =>
  obtain ⟨t, rfl⟩ := rx
  cases y with
  | non => cases ry; exact PySem.EqNone.eq_str_none (q17 I q (by simp))
  | bl j => cases ry; exact PySem.EqMixed.eq_str_bool (q17 I q (by simp))
  | int j => obtain ⟨t', rfl⟩ := ry; exact PySem.EqMixed.eq_str_int (q17 I q (by simp))
  | str j => obtain ⟨t', rfl⟩ := ry; exact eq_str (q17 I q qbk)
  | _ => exact absurd (show false = true from hs) Bool.false_ne_true
 | byt i =>
  obtain ⟨t, rfl⟩ := rx
  cases y with
  | byt j => obtain ⟨t', rfl⟩ := ry; exact PySem.W.eq_bytes (q17 I q qd1)
  | _ => exact absurd (show false = true from hs) Bool.false_ne_true
 | _ => cases y <;> exact absurd (show false = true from hs) Bool.false_ne_true
theorem q6t : OpR X (compareOp .NotEq) rNe := by
 intro pins s σ H x y v u Q I rx ry h
 obtain ⟨hs, q⟩ := h
 cases x with
 | non =>
  cases rx
  cases y with
  | non => cases ry; exact PySem.EqNone.ne_none_none (q17 I q (by simp))
  | bl j => cases ry; exact PySem.EqNone.ne_none_bool (q17 I q (by simp))
  | int j => obtain ⟨t', rfl⟩ := ry; exact PySem.EqNone.ne_none_int (q17 I q (by simp))
  | str j => obtain ⟨t', rfl⟩ := ry; exact PySem.EqNone.ne_none_str (q17 I q (by simp))
  | _ => exact absurd (show false = true from hs) Bool.false_ne_true
 | bl i =>
  cases rx
  cases y with
  | non => cases ry; exact PySem.EqNone.ne_bool_none (q17 I q (by simp))
  | bl j => cases ry; exact ne_bool (q17 I q (congrArg not qf1))
  | str j => obtain ⟨t', rfl⟩ := ry; exact PySem.EqMixed.ne_bool_str (q17 I q (by simp))
  | _ => exact absurd (show false = true from hs) Bool.false_ne_true
 | int i =>
  obtain ⟨t, rfl⟩ := rx
  cases y with
  | non => cases ry; exact PySem.EqNone.ne_int_none (q17 I q (by simp))
  | int j => obtain ⟨t', rfl⟩ := ry; exact ne_int (q17 I q (congrArg not qbo))
  | str j => obtain ⟨t', rfl⟩ := ry; exact PySem.EqMixed.ne_int_str (q17 I q (by simp))
  | _ => exact absurd (show false = true from hs) Bool.false_ne_true
 | str i =>
  obtain ⟨t, rfl⟩ := rx
  cases y with
  | non => cases ry; exact PySem.EqNone.ne_str_none (q17 I q (by simp))
  | bl j => cases ry; exact PySem.EqMixed.ne_str_bool (q17 I q (by simp))
  | int j => obtain ⟨t', rfl⟩ := ry; exact PySem.EqMixed.ne_str_int (q17 I q (by simp))
  | str j => obtain ⟨t', rfl⟩ := ry; exact ne_str (q17 I q (congrArg not qbk))
  | _ => exact absurd (show false = true from hs) Bool.false_ne_true
 | byt i =>
  obtain ⟨t, rfl⟩ := rx
  cases y with
  | byt j => obtain ⟨t', rfl⟩ := ry; exact PySem.W.ne_bytes (q17 I q (congrArg not qd1))
  | _ => exact absurd (show false = true from hs) Bool.false_ne_true
 | _ => cases y <;> exact absurd (show false = true from hs) Bool.false_ne_true
theorem qa8 : OpR X (compareOp .Lt) (rI0 fun i j => .bl (decide (i < j))) := opB0 fun _ _ _ _ _ _ _ q => lt_int q
theorem qdz : OpR X (compareOp .Gt) (rI0 fun i j => .bl (decide (j < i))) := opB0 fun _ _ _ _ _ _ _ q => gt_int q
theorem qdv : OpR X (compareOp .GtE) (rI0 fun i j => .bl (decide (j ≤ i))) := opB0 fun _ _ _ _ _ _ _ q => ge_int q
theorem q0q (b : Expr) {op : CmpOp} (h : op ≠ .In := by decide) (h2 : op ≠ .NotIn := by decide) : behindInMarks op b = false := by
 have e1 : (op == CmpOp.In) = false := by cases op <;> first | rfl | exact absurd rfl h
 have e2 : (op == CmpOp.NotIn) = false := by cases op <;> first | rfl | exact absurd rfl h2
 cases b <;> simp [behindInMarks, e1, e2]
theorem q6e {op : CmpOp} {r : R2} (ho : OpR X (compareOp op) r) (ha : PE X a ta) (hb : PE X b tb) (hm : behindInMarks op b = false) : PE X (.Compare a [op] [b] pos) (tOp r ta tb) := by
 intro pins s σ H Q I h
 exact wpAny_Compare1 (binT ha hb I h fun v u s2 x y H2 I2 rx ry q => ho pins s2 σ H2 x y v u Q I2 rx ry q) hm
def qhb (t : TE) : TT := fun σ H Q => t σ H fun x H' => ∃ k, x = .bl k ∧ Q k H'
theorem q0h {op : CmpOp} {r : R2} (ho : OpR X (compareOp op) r) (ha : PE X a ta) (hb : PE X b tb) (hm : behindInMarks op b = false) : PT X (.Compare a [op] [b] pos) (qhb (tOp r ta tb)) := by
 intro pins s σ H Q I h
 refine wpAny_isTrue_Compare1 (thn (ha pins s σ H _ I h) fun v s1 ⟨x, H1, I1, r1, q1⟩ => thn (hb pins s1 σ H1 _ I1 q1) fun u s2 ⟨y, H2, I2, r2, q2⟩ =>
  thn (ho pins s2 σ H2 x y v u _ I2 r1 r2 q2) fun c s3 ⟨z, H3, I3, r3, k, e, q3⟩ => ?_) hm
 subst e
 cases r3
 exact wpAny_truthy_bool ⟨H3, I3, q3⟩
def TruV (K : PySem.W.Frag) (x : V) (H : Hp) (k : Bool) : Prop :=
 match x with
 | .non => k = false
 | .bl b => k = b
 | .int i => k = (i != 0)
 | .str y => y.length ≤ sizeLine ∧ k = ((y.length : Int) != 0)
 | .byt y => y.size ≤ sizeLine ∧ k = ((y.size : Int) != 0)
 | .ref p => (∃ xs, SqL K H p xs ∧ k = !xs.isEmpty) ∨ (∃ xs, SqT K H p xs ∧ k = !xs.isEmpty) ∨ ∃ kvs, H p = some (.dK kvs) ∧ k = !kvs.isEmpty
 | _ => False
theorem qay {κ : Type} {kvs : List (κ × V)} {vs : List (κ × Value)} (r : KV kvs vs) : (!vs.isEmpty) = !kvs.isEmpty := by
 cases r <;> rfl
theorem q5u {xs : List V} {its : List Value} (r : Vals xs its) : (!its.toArray.isEmpty) = !xs.isEmpty := by
 cases r <;> simp
theorem q75 : (sizeLine : Nat) < 2 ^ 63 := by rw [sizeLine_eq]; decide
theorem qjp : TruR X (fun x H Q => ∃ k, TruV X.K x H k ∧ Q k H) := by
 intro pins s σ H x v Q I rx h
 obtain ⟨k, e, q⟩ := h
 have hl := q75
 have hs : sizeLine = 16777216 := sizeLine_eq
 cases x with
 | non =>
  cases rx
  have e' : k = false := e
  subst e'
  exact truthy_none ⟨H, I, q⟩
 | bl b =>
  cases rx
  have e' : k = b := e
  subst e'
  exact wpAny_truthy_bool ⟨H, I, q⟩
 | int i =>
  obtain ⟨t, rfl⟩ := rx
  have e' : k = (i != 0) := e
  subst e'
  exact PySem.P.truthy_int ⟨H, I, q⟩
 | str y =>
  obtain ⟨t, rfl⟩ := rx
  obtain ⟨hy, e'⟩ : y.length ≤ sizeLine ∧ k = ((y.length : Int) != 0) := e
  subst e'
  exact PySem.P.truthy_str (by omega) ⟨H, I.tok _, q⟩
 | byt y =>
  obtain ⟨t, rfl⟩ := rx
  obtain ⟨hy, e'⟩ : y.size ≤ sizeLine ∧ k = ((y.size : Int) != 0) := e
  subst e'
  exact PySem.W.truthy_bytes (by omega) ⟨H, I.tok _, q⟩
 | ref p =>
  cases rx
  have e' : (∃ xs, SqL X.K H p xs ∧ k = !xs.isEmpty) ∨ (∃ xs, SqT X.K H p xs ∧ k = !xs.isEmpty) ∨ ∃ kvs, H p = some (.dK kvs) ∧ k = !kvs.isEmpty := e
  rcases e' with ⟨xs, hx, e'⟩ | ⟨xs, hx, e'⟩ | ⟨kvs, hx, e'⟩
  ·subst e'
   obtain ⟨its, r, pl, hz⟩ := I.list hx
   have hlen := r.length
   exact wpAny_truthy_list pl.isList (by simp only [List.size_toArray]; omega) ⟨H, I.tok _, by rw [q5u r]; exact q⟩
  ·subst e'
   obtain ⟨its, r, pl, hz⟩ := I.tuple hx
   have hlen := r.length
   exact truthy_tuple pl (by simp only [List.size_toArray]; omega) ⟨H, I.tok _, by rw [q5u r]; exact q⟩
  ·subst e'
   obtain ⟨hz, hS, vs, r, m⟩ : kvs.length ≤ sizeLine ∧ (p == sysModules) = false ∧ ∃ vs, KV kvs vs ∧ s.heap.DictOf (q11 X.prog X.w) p vs := I.hok p _ hx
   have hlen : kvs.length = vs.length := Paired.length r
   exact wpAny_truthy_dict hS m (by omega) ⟨H, I.tok _, by rw [qay r]; exact q⟩
 | _ => exact (show False from e).elim
theorem qde (ha : PE X a ta) (he : ∀ whole, isTrue a X.env whole = (do let v ← whole; standAt a.pos; holding [v] (truthy v))) :
  PT X a (fun σ H Q => ta σ H fun x H' => ∃ k, TruV X.K x H' k ∧ Q k H') := by
 intro pins s σ H Q I h
 exact isTrue_plain (thn (ha pins s σ H _ I h) fun v s1 ⟨x, H1, I1, r1, q1⟩ => qjp pins s1 σ H1 x v Q I1 r1 q1) (he _)
theorem q37 : OpR X (binaryOp .Add) (fun x y H Q => ∃ i j, x = .str i ∧ y = .str j ∧ i.length + j.length ≤ sizeLine ∧ Q (.str (i ++ j)) H) := by
 intro pins s σ H x y v u Q I rx ry h
 obtain ⟨i, j, rfl, rfl, hz, q⟩ := h
 obtain ⟨t, rfl⟩ := rx
 obtain ⟨t', rfl⟩ := ry
 exact add_str (fun t' tk => ⟨.str (i ++ j), H, I.tok _, ⟨_, rfl⟩, q⟩) hz
theorem q6g {x : V} {us : List Value} (r : Vals [x] us) : ∃ u, us = [u] ∧ RelV x u := by
 cases r with
 | cons r1 r2 => cases r2; exact ⟨_, rfl, r1⟩
theorem qjf {x y : V} {us : List Value} (r : Vals [x, y] us) : ∃ u w', us = [u, w'] ∧ RelV x u ∧ RelV y w' := by
 cases r with
 | cons r1 r2 =>
  cases r2 with
  | cons r3 r4 => cases r4; exact ⟨_, _, rfl, r1, r3⟩
theorem qbq : q55 X (.type "int") (fun xs H Q => (∃ i, xs = [.int i] ∧ Q (.int i) H) ∨ ∃ k, xs = [.bl k] ∧ Q (.int (if k then 1 else 0)) H) := by
 intro pins s σ H xs us Q I r h
 rcases h with ⟨i, rfl, q⟩ | ⟨k, rfl, q⟩
 ·obtain ⟨u, rfl, t, rfl⟩ := q6g r
  exact call_int_int ⟨.int i, H, I, ⟨_, rfl⟩, q⟩
 ·obtain ⟨u, rfl, r1⟩ := q6g r
  cases r1
  exact call_int_bool ⟨.int (if k then 1 else 0), H, I.tok _, ⟨_, rfl⟩, q⟩
end
end L2
namespace L2
open PySem PySem.Spec PyProof.Rows
structure ObjM (h : Heap) (x dx C : Addr) (mA : Str → Option Value) : Prop where
 obj : h.get? x = some (PySem.W.instObj C dx)
 ns : h.Ns1 dx mA
 ne : dx ≠ x
theorem qbl {h : Heap} {dx : Addr} {mA : Str → Option Value} (n : h.Ns1 dx mA) : ∃ od, h.get? dx = some od ∧ ∀ name, PySem.W.lookIn name od = some (mA name) := by
 obtain ⟨o, es, ep, ho, hd, hk, _, hm⟩ := n
 refine ⟨o, ho, fun name => ?_⟩
 have e := hm name
 unfold nsFind findBy at e
 rw [← Array.find?_toList] at e
 unfold PySem.W.lookIn
 rw [hd]
 dsimp only
 split
 ·rename_i y q
  rw [q] at e
  exact congrArg some e
 ·rename_i q
  rw [q] at e
  have a : es.toList.any (·.refKey) = false := by
   rw [List.any_eq_false]
   intro y hy
   obtain ⟨z, t, hkey⟩ := hk y (Array.mem_toList_iff.mp hy)
   simp [DictEntry.refKey, hkey]
  have a' : ¬ es.toList.any (·.refKey) = true := by rw [a]; exact Bool.false_ne_true
  rw [if_neg a']
  exact congrArg some e
theorem ObjM.look {h : Heap} {x dx C : Addr} {mA : Str → Option Value} (I : ObjM h x dx C mA) : ∃ od, PySem.W.InstAt h x (PySem.W.instObj C dx) C (some od) ∧ ∀ name, PySem.W.lookIn name od = some (mA name) :=
 let ⟨od, ho, hl⟩ := qbl I.ns
 ⟨od, ⟨I.obj, rfl, rfl, ho⟩, hl⟩
section
variable {prog : Program} {w : World} {A : Around} {E : Value → Shared → Prop} {s : Shared} {K : PySem.W.Frag} {x dx C f : Addr} {mA : Str → Option Value} {name : Str} {v : Value}
theorem qhm {expr : Bool} {Q : Value → Shared → Prop} (X : K.In s.heap) (I : ObjM s.heap x dx C mA) (hg : PySem.W.plainGet K C name = true) (hh : PySem.W.hasDictIn K C = true)
  (ha : PySem.W.findIn K (.ref C) name = some none) (hv : mA name = some v) (hv' : PySem.W.handedIn v = true) (h : Q v { s with toks := s.toks + 1 }) :
  wpAny (model prog w) A (getAttr (.ref x) name expr) Q E s := by
 obtain ⟨od, J, hl⟩ := I.look
 exact PySem.W.get_value X J (PySem.W.plainGet_of hg).1 (PySem.W.findObj_own hh ha rfl (by rw [hl, hv])) hv' h
theorem qea {pl : Sem Bool} {Q : Value × List Value → Shared → Prop} (X : K.In s.heap) (I : ObjM s.heap x dx C mA) (hg : PySem.W.plainGet K C name = true)
  (hf : PySem.W.findIn K (.ref C) name = some (some (.ref f))) (ht : PySem.W.isFn K (.ref f) = true) (hv : mA name = none) (h : Q (.ref f, [.ref x]) s) :
  wpAny (model prog w) A (getMethod (.ref x) name pl) Q E s := by
 obtain ⟨od, J, hl⟩ := I.look
 exact PySem.W.method_fn X J (PySem.W.plainGet_of hg).1 (PySem.W.plainGet_of hg).2 hf (beq_iff_eq.mp ht) (by show (PySem.W.lookIn name od).map (·.isSome) = some false; rw [hl, hv]; rfl) h
theorem qgx {ns : List Str} {Q : Unit → Shared → Prop} (X : K.In s.heap) (I : ObjM s.heap x dx C mA)
  (hs : PySem.W.findIn K (.ref C) "__setattr__" = some (some (.builtin "object.__setattr__"))) (hp : PySem.W.plainOver K C = true) (ht : PySem.W.takerIn K C name = some none) (hh : PySem.W.hasDictIn K C = true)
  (hw : PySem.Within mA ns) (hsz : ns.length ≤ sizeLine)
  (h : ∀ h', ObjM h' x dx C (fun y => if y = name then some v else mA y) → Heap.SameBut dx s.heap h' → Q () { s with heap := h', toks := s.toks + 2 }) :
  wpAny (model prog w) A (setAttr (.ref x) name v) Q E s := by
 obtain ⟨od, J, hl⟩ := I.look
 refine PySem.W.set_plain X J hs (PySem.W.osa_open (s := { s with toks := s.toks + 1 }) (r := none) X J hp ht fun b => ?_)
 obtain ⟨cd, hc, hd'⟩ := PySem.W.any_some hh
 have hx : s.heap.get? x = some ⟨.ref C, some dx, .plain, #[]⟩ := I.obj
 refine wpAny_bind (wpAny_pure (wpAny_bind (wpAny_bind (wpAny_loadPart hx (wpAny_bind (PySem.W.Looks.here (s := { s with toks := s.toks + 1 }) (PySem.W.looks_clsIn X hc) ?_))))))
 rw [hd']
 refine wpAny_pure (a := some dx) (wpAny_bind (wpAny_pure (wpAny_bind ?_)))
 refine wpAny_nsSet1 (s := { s with toks := s.toks + 1 }) I.ns fun h' hn2 hs2 => ?_
 obtain ⟨oD, esD, epD, hoD, hdD, hcD⟩ := hn2.count (PySem.Within.cons name v hw)
 refine wpAny_bind (wpAny_lookBehind hoD (by rw [hdD]; exact pastItsLine_dict (Nat.le_trans hcD (by rw [List.length_cons]; omega))) ?_)
 exact wpAny_pure (h _ ⟨(hs2.2 _ (Ne.symm I.ne)).trans I.obj, hn2, I.ne⟩ hs2)
theorem qes {R : Result → Shared → Prop} {vs : List Value} {kw : List (Str × Value)} (X : K.In s.heap) (hm : PySem.W.makesIn K C = true)
  (hi : PySem.W.findIn K (.ref C) "__init__" = some (some (.ref f))) (hf : PySem.W.typeIn K (.ref f) = some (.type "function"))
  (h : codeAny (model prog w) (A.under (.builtin "type.__call__" ⟨.ref C :: vs, kw⟩)) (.call (.ref f) ⟨.ref (s.heap.objs.size + 1) :: vs, kw⟩) (PySem.W.InitBack (s.heap.objs.size + 1) R)
   { s with heap := (s.heap.push PySem.W.emptyDict).push (PySem.W.instObj C s.heap.objs.size) }) :
  codeAny (model prog w) A (.call (.ref C) ⟨vs, kw⟩) R s := by
 obtain ⟨hh, g, d, t, os⟩ := s
 exact PySem.W.make_core (PySem.W.makes_of X hm) (PySem.W.looks_findIn X hi) (fun self => PySem.W.bind_fn X self hf) (.inl rfl) h
end
def putF (f : Str) (v : V) : List (Str × V) → List (Str × V)
 | [] => [(f, v)]
 | (g, x) :: r => if g = f then (g, v) :: r else (g, x) :: putF f v r
theorem q1s (f g : Str) (v : V) : ∀ fs : List (Str × V), (putF f v fs).lookup g = if g = f then some v else fs.lookup g
 | [] => by
  show List.lookup g [(f, v)] = _
  by_cases h : g = f
  ·have hb : (g == f) = true := beq_iff_eq.mpr h
   simp only [List.lookup, hb, if_pos h]
  ·have hb : (g == f) = false := beq_eq_false_iff_ne.mpr h
   simp only [List.lookup, hb, if_neg h]
 | (k, x) :: r => by
  have ih := q1s f g v r
  rw [show putF f v ((k, x) :: r) = (if k = f then (k, v) :: r else (k, x) :: putF f v r) from rfl]
  by_cases hk : k = f
  ·rw [if_pos hk]
   by_cases h : g = k
   ·have hb : (g == k) = true := beq_iff_eq.mpr h
    simp only [List.lookup, hb, if_pos (h.trans hk)]
   ·have hb : (g == k) = false := beq_eq_false_iff_ne.mpr h
    simp only [List.lookup, hb, if_neg (fun e : g = f => h (e.trans hk.symm))]
  ·rw [if_neg hk]
   by_cases h : g = k
   ·have hb : (g == k) = true := beq_iff_eq.mpr h
    simp only [List.lookup, hb, if_neg (fun e : g = f => hk (h.symm.trans e))]
   ·have hb : (g == k) = false := beq_eq_false_iff_ne.mpr h
    simp only [List.lookup, hb]
    exact ih
theorem q5g (f : Str) (v : V) : ∀ fs : List (Str × V), f ∈ (putF f v fs).map (·.1) ∧ ∀ g, g ∈ fs.map (·.1) → g ∈ (putF f v fs).map (·.1)
 | [] => ⟨by simp [putF], fun g h => by simp at h⟩
 | (k, x) :: r => by
  obtain ⟨i1, i2⟩ := q5g f v r
  rw [show putF f v ((k, x) :: r) = (if k = f then (k, v) :: r else (k, x) :: putF f v r) from rfl]
  by_cases hk : k = f
  ·rw [if_pos hk]
   subst hk
   exact ⟨by simp, fun g h => by simpa using h⟩
  ·rw [if_neg hk]
   refine ⟨?_, fun g h => ?_⟩
   ·rw [List.map_cons]
    exact List.mem_cons_of_mem _ i1
   ·rw [List.map_cons] at h ⊢
    rcases List.mem_cons.mp h with e | e
    ·exact List.mem_cons.mpr (.inl e)
    ·exact List.mem_cons_of_mem _ (i2 g e)
theorem q4v (f : Str) (v : V) : ∀ fs : List (Str × V), (putF f v fs).length ≤ fs.length + 1
 | [] => by simp [putF]
 | (k, x) :: r => by
  have ih := q4v f v r
  rw [show putF f v ((k, x) :: r) = (if k = f then (k, v) :: r else (k, x) :: putF f v r) from rfl]
  by_cases hk : k = f
  ·rw [if_pos hk, List.length_cons, List.length_cons]; omega
  ·rw [if_neg hk, List.length_cons, List.length_cons]; omega
theorem RelO.some_of {v : V} {o : Option Value} (r : RelO (some v) o) : ∃ u, o = some u ∧ RelV v u := by
 cases o with
 | none => exact (show False from r).elim
 | some u => exact ⟨u, rfl, r⟩
theorem RelO.none_of {o : Option Value} (r : RelO none o) : o = none := by
 cases o with
 | none => rfl
 | some u => exact (show False from r).elim
theorem qcm {v : V} {u : Value} (r : RelV v u) : PySem.W.handedIn u = true := by
 cases v with
 | non => cases (show u = Value.none from r); rfl
 | bl b => cases (show u = Value.bool b from r); rfl
 | int i => obtain ⟨t, e⟩ := (show ∃ t, u = Value.int i t from r); cases e; rfl
 | str x => obtain ⟨t, e⟩ := (show ∃ t, u = Value.str x t from r); cases e; rfl
 | byt b => obtain ⟨t, e⟩ := (show ∃ t, u = Value.bytes b t from r); cases e; rfl
 | flt b => obtain ⟨t, e⟩ := (show ∃ t, u = Value.float b t from r); cases e; rfl
 | ref a => cases (show u = Value.ref a from r); rfl
 | ty n => cases (show u = Value.type n from r); rfl
section
variable {P : Program} {w : World} {H H' : Hp} {h h' : Heap} {a C dx : Addr} {fs fs' : List (Str × V)}
theorem q6j (hok : HOk P w H h) (e : H a = some (.ins C dx fs)) : ∃ mA, ObjM h a dx C mA ∧ (∀ f, RelO (fs.lookup f) (mA f)) ∧ PySem.Within mA (fs.map (·.1)) ∧ fs.length ≤ 1000 ∧ H dx = some (.own a) := by
 obtain ⟨d, z, ne, ob, mA, n, r, q⟩ := (show q1h P w H h a (.ins C dx fs) from hok a _ e)
 exact ⟨mA, ⟨ob, n, ne⟩, r, q, z, d⟩
end
structure Cls (K : PySem.W.Frag) (C : Addr) : Prop where
 pg : PySem.W.plainGet K C Str.empty = true
 hd : PySem.W.hasDictIn K C = true
 po : PySem.W.plainOver K C = true
 sa : PySem.W.findIn K (.ref C) "__setattr__" = some (some (.builtin "object.__setattr__"))
theorem Cls.get {K : PySem.W.Frag} {C : Addr} (c : Cls K C) (f : Str) : PySem.W.plainGet K C f = true := c.pg
def q2h (K : PySem.W.Frag) (C : Addr) (f : Str) : Prop := PySem.W.findIn K (.ref C) f = some none
theorem q2h.taker {K : PySem.W.Frag} {C : Addr} {f : Str} (n : q2h K C f) : PySem.W.takerIn K C f = some none := by
 unfold PySem.W.takerIn
 rw [show PySem.W.findIn K (.ref C) f = some none from n]
 rfl
structure Con (K : PySem.W.Frag) (C : Addr) (f : Str) (v : V) (u : Value) : Prop where
 at_ : PySem.W.findIn K (.ref C) f = some (some u)
 rel : RelV v u
 get : PySem.W.specialIn K u "__get__" = some none
 cp : PySem.W.copiedNames.contains f = false
structure Meth (K : PySem.W.Frag) (C : Addr) (m : Str) (f : Addr) : Prop where
 at_ : PySem.W.findIn K (.ref C) m = some (some (.ref f))
 fn : PySem.W.isFn K (.ref f) = true
 kp : PySem.W.keepIn K (.ref f) = true
section
variable {X : Cx} {pins : List (Addr × Obj)} {σ : St} {H : Hp} {s : Shared} {a C dx : Addr} {fs : List (Str × V)} {f : Str} {v : V} {A : Around} {E : Value → Shared → Prop}
theorem qa2 {b : Bool} {Q : Value → Shared → Prop} (I : Inv X pins σ H s) (e : H a = some (.ins C dx fs)) (c : Cls X.K C) (n : q2h X.K C f) (l : fs.lookup f = some v)
  (h : ∀ u s', Inv X pins σ H s' → RelV v u → Q u s') : wpAny (model X.prog X.w) A (getAttr (.ref a) f b) Q E s := by
 obtain ⟨mA, O, r, _, _, _⟩ := q6j I.hok e
 obtain ⟨u, hu, ru⟩ := RelO.some_of (v := v) (o := mA f) (by rw [← l]; exact r f)
 exact qhm I.kIn O (c.get f) c.hd n hu (qcm ru) (h u _ (I.tok _) ru)
theorem q3b {m : Str} {g : Addr} {pl : Sem Bool} {Q : Value × List Value → Shared → Prop} (I : Inv X pins σ H s) (e : H a = some (.ins C dx fs)) (c : Cls X.K C) (k : Meth X.K C m g) (l : fs.lookup m = none)
  (h : Q (.ref g, [.ref a]) s) : wpAny (model X.prog X.w) A (getMethod (.ref a) m pl) Q E s := by
 obtain ⟨mA, O, r, _, _, _⟩ := q6j I.hok e
 have hn : mA m = none := RelO.none_of (by rw [← l]; exact r m)
 exact qea I.kIn O (c.get m) k.at_ k.fn hn h
theorem qa9 {y : V} {u : Value} {Q : Unit → Shared → Prop} (I : Inv X pins σ H s) (e : H a = some (.ins C dx fs)) (c : Cls X.K C) (n : q2h X.K C f) (hl : fs.length < 1000) (ry : RelV y u)
  (h : ∀ s', Inv X pins σ (upd H a (.ins C dx (putF f y fs))) s' → Q () s') : wpAny (model X.prog X.w) A (setAttr (.ref a) f u) Q E s := by
 obtain ⟨mA, O, r, wi, _, ho⟩ := q6j I.hok e
 have hz : (fs.map (·.1)).length ≤ sizeLine := by rw [List.length_map, sizeLine_eq]; omega
 refine qgx I.kIn O c.sa c.po n.taker c.hd wi hz fun h' O' sb => h _ ?_
 have hd : ∃ o, h'.get? dx = some o := let ⟨o, _, _, e', _⟩ := O'.ns; ⟨o, e'⟩
 refine I.write (x := a) (e := dx) (by rw [e]; exact True.intro) (.inr ho) (fun b q hb z => (sb.2 b hb).trans z) hd ?_
 refine ⟨by rw [q08 O.ne]; exact ho, ?_, O.ne, O'.obj, _, O'.ns, fun g => ?_, fun g hg => ?_⟩
 ·have := q4v f y fs; omega
 ·show RelO ((putF f y fs).lookup g) (if g = f then some u else mA g)
  rw [q1s]
  by_cases q : g = f
  ·rw [if_pos q, if_pos q]; exact ry
  ·rw [if_neg q, if_neg q]; exact r g
 ·by_cases q : g = f
  ·rw [q]; exact (q5g f y fs).1
  ·refine (q5g f y fs).2 g (wi g fun z => hg ?_)
   show (if g = f then some u else mA g) = none
   rw [if_neg q]; exact z
theorem Inv.made (I : Inv X pins σ H s) : Inv X pins σ (upd (upd H s.heap.objs.size (.own (s.heap.objs.size + 1))) (s.heap.objs.size + 1) (.ins C s.heap.objs.size []))
  { s with heap := (s.heap.push PySem.W.emptyDict).push (PySem.W.instObj C s.heap.objs.size) } := by
 have e1 : (s.heap.push PySem.W.emptyDict).get? s.heap.objs.size = some PySem.W.emptyDict := Heap.get?_push_size s.heap rfl
 have e2 : ((s.heap.push PySem.W.emptyDict).push (PySem.W.instObj C s.heap.objs.size)).get? (s.heap.objs.size + 1) = some (PySem.W.instObj C s.heap.objs.size) := by
  have := Heap.get?_push_size (s.heap.push PySem.W.emptyDict) (o := PySem.W.instObj C s.heap.objs.size) rfl
  rwa [Heap.size_push] at this
 have e3 : (s.heap.push PySem.W.emptyDict).Ns s.heap.objs.size (fun _ => none) := ⟨PySem.W.emptyDict, #[], _, e1, rfl, (fun e he => absurd he (by simp)), fun _ => rfl⟩
 have I1 := I.laid (a := s.heap.objs.size) (o := .own (s.heap.objs.size + 1)) (h' := s.heap.push PySem.W.emptyDict) (t' := s.toks) (fun b u q => Heap.get?_push_of_some _ q) (Nat.le_refl _) ⟨_, e1⟩
 refine I1.laid (a := s.heap.objs.size + 1) (o := .ins C s.heap.objs.size []) (t' := s.toks) (fun b u q => Heap.get?_push_of_some _ q) (Nat.le_of_eq (Heap.size_push _ _)) ?_
 have ne : s.heap.objs.size ≠ s.heap.objs.size + 1 := Nat.ne_of_lt (Nat.lt_succ_self _)
 refine ⟨by rw [q08 ne, q05], Nat.zero_le _, ne, e2, fun _ => none, (Heap.Ns1.of_empty e3).at fun o q => Heap.get?_push_of_some _ q, fun _ => True.intro, fun y hy => absurd rfl hy⟩
theorem qg5 {prog : Program} {w : World} {env : Env} {e : Expr} {f : Str} {pos : Pos} {s : Shared} {Q : Value → Shared → Prop} (hb : attributeBase e f env (eval e env) = eval e env)
  (h : wpAny (model prog w) A (eval e env) (fun o s₁ => wpAny (model prog w) A (getAttr o f true) Q E s₁) E s) : wpAny (model prog w) A (eval (.Attribute e f pos) env) Q E s :=
 Attribute_any_ h (by rw [arm_eval_Attribute, hb])
end
def tFld (K : PySem.W.Frag) (ta : TE) (f : Str) : TE := fun σ H Q => ta σ H fun x H1 => ∃ a C dx fs v, x = .ref a ∧ H1 a = some (.ins C dx fs) ∧ Cls K C ∧ q2h K C f ∧ fs.lookup f = some v ∧ Q v H1
def sFld (K : PySem.W.Frag) (ta tv : TE) (f : Str) : TS := fun D σ H => tv σ H fun y H1 => ta σ H1 fun x H2 => ∃ a C dx fs, x = .ref a ∧ H2 a = some (.ins C dx fs) ∧ Cls K C ∧ q2h K C f ∧ fs.length < 1000 ∧
 D.nx σ (upd H2 a (.ins C dx (putF f y fs)))
section
variable {X : Cx} {o e value : Expr} {f : Str} {pos pos' tpos : Pos} {ta tv : TE}
theorem q12 (he : PE X e ta) (hb : attributeBase e f X.env (eval e X.env) = eval e X.env) : PE X (.Attribute e f pos) (tFld X.K ta f) := by
 intro pins s σ H Q I h
 refine qg5 hb (thn (he pins s σ H _ I h) fun u s1 ⟨x, H1, I1, rx, a, C, dx, fs, v, ex, ea, c, n, l, q⟩ => ?_)
 subst ex
 obtain rfl : u = Value.ref a := rx
 exact qa2 I1 ea c n l fun u' s2 I2 ru => ⟨v, H1, I2, ru, q⟩
theorem q2v (ha : PE X o ta) (hv : PE X value tv) (hs : swapsWith value (some (.Attribute o f pos')) pos.line X.env = pure false) : PS X (.Assign [.Attribute o f pos'] value pos) (sFld X.K ta tv f) := by
 intro pins s σ H D I h
 refine plainObj_wpAny_Assign_Attribute (thn (hv pins s σ H _ I h) fun u s1 ⟨y, H1, I1, ry, q⟩ => thn (ha pins s1 σ H1 _ I1 q) fun ov s2 ⟨x, H2, I2, rx, a, C, dx, fs, ex, ea, c, n, l, q2⟩ => ?_) hs
 subst ex
 obtain rfl : ov = Value.ref a := rx
 exact qa9 I2 ea c n l ry fun s3 I3 => ⟨σ, _, I3, q2⟩
end
section
variable {X : Cx} {pins : List (Addr × Obj)} {σ : St} {H : Hp} {s : Shared} {A : Around} {E : Value → Shared → Prop} {Q : Value → Shared → Prop} {c : Value} {b : Bool}
inductive TyOf (K : PySem.W.Frag) (H : Hp) : V → Value → Prop where
 | non : TyOf K H .non (.type "NoneType")
 | bl (x : Bool) : TyOf K H (.bl x) (.type "bool")
 | int (i : Int) : TyOf K H (.int i) (.type "int")
 | str (x : Str) : TyOf K H (.str x) (.type "str")
 | flt (x : UInt64) : TyOf K H (.flt x) (.type "float")
 | lst {a : Addr} {xs : List V} (e : H a = some (.lst xs)) : TyOf K H (.ref a) (.type "list")
 | frz {a : Addr} {o : Obj} {xs : List V} (e : H a = some (.frz o (.lst xs))) : TyOf K H (.ref a) (.type "list")
 | tup {a : Addr} {xs : List V} (e : H a = some (.tup xs)) : TyOf K H (.ref a) (.type "tuple")
 | dK {a : Addr} {kvs : List (Key × V)} (e : H a = some (.dK kvs)) : TyOf K H (.ref a) (.type "dict")
 | dT {a : Addr} {kvs : List (List Key × V)} (e : H a = some (.dT kvs)) : TyOf K H (.ref a) (.type "dict")
 | ins {a C dx : Addr} {fs : List (Str × V)} (e : H a = some (.ins C dx fs)) (cl : Cls K C) (ha : PySem.W.findIn K (.ref C) "__class__" = some (some (.builtin "object.__class__")))
   (hn : PySem.W.specialIn K (.builtin "object.__class__") "__get__" = some (some (.builtin "getset_descriptor.__get__"))) (htk : PySem.W.takesIn K (.builtin "object.__class__") = some true)
   (hm : PySem.W.mroIn K C (.type "object") = some true) : TyOf K H (.ref a) (.ref C)
theorem qb5 {x : V} {u t : Value} (I : Inv X pins σ H s) (rx : RelV x u) (ty : TyOf X.K H x t) (e : PySem.W.kitOne X.K t c = some b) (h : ∀ tk, Q (.bool b) { s with toks := tk }) :
  wpAny (model X.prog X.w) A (call (.builtin "isinstance") [u, c]) Q E s := by
 cases ty with
 | non => cases (show u = Value.none from rx); exact PySem.W.kia_one PySem.W.kitx_none I.kIn True.intro e (fun z => nomatch z) h
 | bl y => cases (show u = Value.bool y from rx); exact PySem.W.kia_one PySem.W.kitx_bool I.kIn True.intro e (fun z => nomatch z) h
 | int i => obtain ⟨t, q⟩ := (show ∃ t, u = Value.int i t from rx); cases q; exact PySem.W.kia_one PySem.W.kitx_int I.kIn True.intro e (fun z => nomatch z) h
 | str y => obtain ⟨t, q⟩ := (show ∃ t, u = Value.str y t from rx); cases q; exact PySem.W.kia_one PySem.W.kitx_str I.kIn True.intro e (fun z => nomatch z) h
 | flt y => obtain ⟨t, q⟩ := (show ∃ t, u = Value.float y t from rx); cases q; exact PySem.W.kia_one PySem.W.kitx_float I.kIn True.intro e (fun z => nomatch z) h
 | @lst a xs ea =>
  cases (show u = Value.ref a from rx)
  obtain ⟨_, _, n, _, h1⟩ := (show q1h X.prog X.w H s.heap a (.lst xs) from I.hok a _ ea)
  exact PySem.W.kia_one PySem.W.kitx_list I.kIn ⟨_, h1, rfl⟩ e (fun z => nomatch z) h
 | @frz a ob xs ea =>
  cases (show u = Value.ref a from rx)
  obtain ⟨_, _, _, n, _, h1⟩ := (show q1h X.prog X.w H s.heap a (.frz ob (.lst xs)) from I.hok a _ ea)
  exact PySem.W.kia_one PySem.W.kitx_list I.kIn ⟨_, h1, rfl⟩ e (fun z => nomatch z) h
 | @tup a xs ea =>
  cases (show u = Value.ref a from rx)
  obtain ⟨_, _, _, p⟩ := (show q1h X.prog X.w H s.heap a (.tup xs) from I.hok a _ ea)
  obtain ⟨o, h1, h2, _⟩ := p
  exact PySem.W.kia_one PySem.W.kitx_tuple I.kIn ⟨o, h1, h2⟩ e (fun z => nomatch z) h
 | @dK a kvs ea =>
  cases (show u = Value.ref a from rx)
  obtain ⟨_, _, vs, _, p⟩ := (show q1h X.prog X.w H s.heap a (.dK kvs) from I.hok a _ ea)
  obtain ⟨o, es, ep, h1, h2, _⟩ := p
  exact PySem.W.kia_one PySem.W.kitx_dict I.kIn ⟨o, h1, h2.1⟩ e (fun z => nomatch z) h
 | @dT a kvs ea =>
  cases (show u = Value.ref a from rx)
  obtain ⟨_, _, xs, _, o, es, ep, h1, h2, _⟩ := (show q1h X.prog X.w H s.heap a (.dT kvs) from I.hok a _ ea)
  exact PySem.W.kia_one PySem.W.kitx_dict I.kIn ⟨o, h1, h2.1⟩ e (fun z => nomatch z) h
 | @ins a C dx fs ea cl ha hn htk hm =>
  cases (show u = Value.ref a from rx)
  obtain ⟨mA, O, _⟩ := q6j I.hok ea
  obtain ⟨od, J, _⟩ := O.look
  exact PySem.W.kia_one (PySem.W.kitx_own (cl.get _) cl.hd ha hn htk hm) I.kIn J e (fun z => nomatch z) h
end
end L2
namespace L2
open PySem PySem.Spec PyProof.Rows
structure Room (k : Nat) (A : Around) : Prop where
 hd : A.handled = none
 dp : A.depth + 3 * k + 5 < recursionLimit
 un : A.units + 16 * k + 200 < cLine
theorem Room.mono {j k : Nat} {A : Around} (r : Room k A) (h : j ≤ k) : Room j A := ⟨r.hd, by have := r.dp; omega, by have := r.un; omega⟩
theorem Room.deeper {k : Nat} {A : Around} (r : Room (k + 1) A) (env : Env) : Room k (A.deeper env) :=
 ⟨r.hd, by have := r.dp; show A.depth + 1 + 3 * k + 5 < _; omega, by have := r.un; show A.units + 3 + 16 * k + 200 < _; omega⟩
theorem qax {A : Around} {C : Addr} {us : List Value} {kw : List (Str × Value)} : (A.under (.builtin "type.__call__" ⟨.ref C :: us, kw⟩)).depth = A.depth + 1 := by
 first | rfl | simp [Around.under, Code.weight, Code.isCreation, Code.isGuard, Code.isCaller, Code.frames, Code.isFrame, guardIds]
theorem q9r {A : Around} {C : Addr} {us : List Value} {kw : List (Str × Value)} : (A.under (.builtin "type.__call__" ⟨.ref C :: us, kw⟩)).units = A.units + 1 := by
 first | rfl | simp [Around.under, Code.cUnits, Code.frames, Code.isFrame]
theorem Room.make {k : Nat} {A : Around} (r : Room (k + 1) A) (C : Addr) (us : List Value) (kw : List (Str × Value)) : Room k (A.under (.builtin "type.__call__" ⟨.ref C :: us, kw⟩)) :=
 ⟨r.hd, by have := r.dp; rw [qax]; omega, by have := r.un; rw [q9r]; omega⟩
theorem Room.depth {k : Nat} {A : Around} (r : Room k A) : A.depth < recursionLimit := by have := r.dp; omega
theorem Room.units {k : Nat} {A : Around} (r : Room k A) : A.units + 64 < cLine := by have := r.un; omega
def tNil : TA := fun _ H Q => Q [] H
def qi2 (ta : TE) (tr : TA) : TA := fun σ H Q => ta σ H fun x H1 => tr σ H1 fun xs H2 => Q (x :: xs) H2
section
variable {X : Cx} {e : Expr} {es : List Expr} {te : TE} {t : TA} {pos : Pos}
theorem q04 : PA X [] tNil := fun _ _ _ _ H Q I h => Calls.spliced_nil ⟨[], H, I, .nil, h⟩
theorem q00 (ha : PE X e te) (hr : PA X es t) (hs : starEach (e :: es) X.env = (false, eval e X.env) :: starEach es X.env := by rfl) : PA X (e :: es) (qi2 te t) := by
 intro pos pins s σ H Q I h
 rw [hs]
 show wpAny _ _ (spliced ((false, eval e X.env) :: backTo pos (starEach es X.env))) _ _ s
 refine Calls.spliced_cons (thn (ha pins s σ H _ I h) fun u s1 ⟨x, H1, I1, r1, q1⟩ => ?_)
 exact thn (hr pos pins s1 σ H1 _ I1 q1) fun us s2 ⟨xs, H2, I2, r2, q2⟩ => ⟨x :: xs, H2, I2, .cons r1 r2, q2⟩
def tTup (t : TA) : TE := fun σ H Q => t σ H fun xs H1 => xs.length ≤ sizeLine ∧ ∀ p, H1 p = none → Q (.ref p) (upd H1 p (.tup xs))
def tLst (t : TA) : TE := fun σ H Q => t σ H fun xs H1 => xs.length ≤ sizeLine ∧ ∀ p, H1 p = none → Q (.ref p) (upd H1 p (.lst xs))
theorem q1g {x1} (h : PA X es t) : PE X (.Tuple es x1 pos) (tTup t) := by
 intro pins s σ H Q I hq
 refine wpAny_Tuple_spliced (thn (h pos pins s σ H _ I hq) fun us s1 ⟨xs, H1, I1, r, z, q⟩ => ⟨by rw [← r.length]; exact z, ?_⟩)
 have hf : H1 s1.heap.objs.size = none := I1.hok.fresh (Nat.le_refl _)
 refine ⟨.ref s1.heap.objs.size, upd H1 s1.heap.objs.size (.tup xs), I1.laid (t' := s1.toks) (fun b u e => Heap.get?_push_of_some _ e) (Nat.le_refl _) ?_, rfl, q _ hf⟩
 exact ⟨z, us, r, ⟨_, Heap.get?_push_size _ rfl, rfl, _, rfl⟩⟩
theorem q1i (h : PA X es t) : PE X (.List es pos) (tLst t) := by
 intro pins s σ H Q I hq
 refine wpAny_List_spliced (thn (h pos pins s σ H _ I hq) fun us s1 ⟨xs, H1, I1, r, z, q⟩ => ⟨by rw [← r.length]; exact z, ?_⟩)
 have hf : H1 s1.heap.objs.size = none := I1.hok.fresh (Nat.le_refl _)
 refine ⟨.ref s1.heap.objs.size, upd H1 s1.heap.objs.size (.lst xs), I1.laid (t' := s1.toks) (fun b u e => Heap.get?_push_of_some _ e) (Nat.le_refl _) ?_, rfl, q _ hf⟩
 exact ⟨z, us, 0, r, Heap.get?_push_size _ rfl⟩
end
abbrev Sp := List V → Hp → VK → XK → Prop
abbrev CXT := List Env → Hp → Shared → XK → Value → Shared → Prop
structure Env0 (P : Program) (w : World) (K : PySem.W.Frag) (mg : Str → Option Value) (base : Heap) (A : Around) (outer : List Env) (s : Shared) (H : Hp) : Prop where
 frames : A.frames = some outer
 mod : Mod K mg base
 bs : ∀ b o, base.get? b = some o → s.heap.get? b = some o ∧ H b = none
 bsz : base.objs.size ≤ s.heap.objs.size
 funs : s.heap.FunFrames base outer
 frf : ∀ b ∈ frs outer, H b = none
 hok : HOk P w H s.heap
 bare : AllBare s.gens
def CE (outer : List Env) (P : Program) (w : World) (H : Hp) (s : Shared) (Q : VK) (u : Value) (s' : Shared) : Prop :=
 ∃ v H', s'.os = s.os ∧ AllBare s'.gens ∧ Un (frs outer) [] H H' s.heap s'.heap ∧ HOk P w H' s'.heap ∧ RelV v u ∧ Q v H'
def CR (CX : CXT) (outer : List Env) (P : Program) (w : World) (H : Hp) (s : Shared) (Q : VK) (E : XK) (r : Result) (s' : Shared) : Prop :=
 match r with
 | .ok (.ret u) => CE outer P w H s Q u s'
 | .ok _ => False
 | .error e => CX outer H s E e s'
structure FnOk (P : Program) (w : World) (K : PySem.W.Frag) (mg : Str → Option Value) (base : Heap) (CX : CXT) (k : Nat) (f : Addr) (fd : FuncData) (ps : List Str) (sp : Sp) : Prop where
 len : ∀ vs H Q E, sp vs H Q E → vs.length = ps.length
 run : ∀ (A : Around) (outer : List Env) (s : Shared) (H : Hp) (args : Args) (us : List Value) (vs : List V) (Q : VK) (E : XK), Room k A → Env0 P w K mg base A outer s H → BindsTo s fd args (ps.zip us) → Vals vs us → sp vs H Q E →
  codeAny (model P w) A (.call (.ref f) args) (CR CX outer P w H s Q E) s
theorem Env0.make {P : Program} {w : World} {K : PySem.W.Frag} {mg : Str → Option Value} {base : Heap} {A : Around} {outer : List Env} {s : Shared} {H : Hp} (e : Env0 P w K mg base A outer s H) (C : Addr) (us : List Value) (kw : List (Str × Value)) :
  Env0 P w K mg base (A.under (.builtin "type.__call__" ⟨.ref C :: us, kw⟩)) outer s H := ⟨by first | exact e.frames | (simpa [Around.under, Code.envs, Code.isFrame, pushEnvs] using e.frames), e.mod, e.bs, e.bsz, e.funs, e.frf, e.hok, e.bare⟩
section
variable {X : Cx} {pins : List (Addr × Obj)} {σ : St} {H : Hp} {s s' : Shared}
theorem Inv.env0 (I : Inv X pins σ H s) : Env0 X.prog X.w X.K X.mg X.base X.A X.stack s H :=
 ⟨I.ok.frames, I.ok.mod, I.bs, Nat.le_trans I.ok.bsz I.sz, I.stack, I.stkFree, I.hok, I.bare⟩
theorem Inv.after {Q : VK} {u : Value} (I : Inv X pins σ H s) (h : CE X.stack X.prog X.w H s Q u s') : EP X pins σ Q u s' := by
 obtain ⟨v, H', os, bare, un, hok, r, q⟩ := h
 obtain ⟨hh, g, d, t, os'⟩ := s'
 obtain rfl : os' = s.os := os
 exact ⟨v, H', I.call (h' := hh) (g' := g) (d' := d) (t' := t) (ch := []) un hok bare (fun b z => absurd z (by simp)), r, q⟩
end
def qj9 (sp : Sp) (dvs : List V) (E : XK) (t : TA) : TE := fun σ H Q => t σ H fun vs H1 => sp (vs ++ dvs) H1 Q E
def qeg (C : Addr) (m : Str) (sp : Sp) (dvs : List V) (E : XK) (ta : TE) (t : TA) : TE := fun σ H Q => ta σ H fun x H1 => ∃ a dx fs, x = .ref a ∧ H1 a = some (.ins C dx fs) ∧ fs.lookup m = none ∧
 t σ H1 fun vs H2 => sp (x :: (vs ++ dvs)) H2 Q E
def qj5 (C : Addr) (sp : Sp) (dvs : List V) (E : XK) (t : TA) : TE := fun σ H Q => t σ H fun vs H1 => ∀ x dx, H1 x = none → H1 dx = none → dx ≠ x →
 sp (.ref x :: (vs ++ dvs)) (upd (upd H1 dx (.own x)) x (.ins C dx [])) (fun v H2 => v = .non ∧ Q (.ref x) H2) E
def q48 (K : PySem.W.Frag) (fd : FuncData) (ps : List Str) (ds : List Value) : Prop :=
 ∀ (s : Shared) (us : List Value), K.In s.heap → (us ++ ds).length = ps.length → BindsTo s fd ⟨us, []⟩ (ps.zip (us ++ ds))
theorem q48.all {K : PySem.W.Frag} {fd : FuncData} {ps : List Str} (h : ∀ us : List Value, us.length = ps.length → bindArgs fd ⟨us, []⟩ = pure (ps.zip us)) : q48 K fd ps [] := fun s us _ hl => by
 rw [List.append_nil] at hl ⊢
 exact .of_eq (h us hl)
def q30 (CX : CXT) (X : Cx) (E : XK) : Prop := ∀ (pins : List (Addr × Obj)) (σ : St) (H : Hp) (s : Shared) (e : Value) (s' : Shared), Inv X pins σ H s → CX X.stack H s E e s' → X.xe e s'
section
variable {X : Cx} {CX : CXT} {k : Nat} {f C : Addr} {fd : FuncData} {ps : List Str} {sp : Sp} {dvs : List V} {ds : List Value} {E : XK} {x m : Str} {p pos apos : Pos} {e o : Expr} {es : List Expr} {ta : TE} {t : TA}
theorem qci {pins : List (Addr × Obj)} {σ : St} {H : Hp} {s : Shared} {Q : VK} {us : List Value} {vs : List V} (F : FnOk X.prog X.w X.K X.mg X.base CX k f fd ps sp) (hr : Room k X.A) (hb : q48 X.K fd ps ds) (hd : Vals dvs ds) (hx : q30 CX X E)
  (I : Inv X pins σ H s) (r : Vals vs us) (h : sp (vs ++ dvs) H Q E) : wpAny (model X.prog X.w) X.A (call (.ref f) us) (EP X pins σ Q) X.xe s := by
 have r2 : Vals (vs ++ dvs) (us ++ ds) := r.append hd
 have hl : (us ++ ds).length = ps.length := by rw [← r2.length]; exact F.len _ _ _ _ h
 refine wpAny_call (codeAny_mono (F.run X.A X.stack s H ⟨us, []⟩ (us ++ ds) (vs ++ dvs) Q E hr I.env0 (hb s us I.kIn hl) r2 h) fun r s' hq => ?_)
 cases r with
 | error e => exact hx pins σ H s e s' I hq
 | ok fl =>
  cases fl with
  | ret u => exact I.after hq
  | next => exact False.elim hq
  | brk => exact False.elim hq
  | cont => exact False.elim hq
theorem qhg (F : FnOk X.prog X.w X.K X.mg X.base CX k f fd ps sp) (hr : Room k X.A) (hg : Gl X x) (hm : X.mg x = some (.ref f)) (hk : PySem.W.keepIn X.K (.ref f) = true) (hb : q48 X.K fd ps ds) (hd : Vals dvs ds) (hx : q30 CX X E)
  (ha : PA X (e :: es) t) (hdb : (x == ("__debug__" : Str)) = false := by decide) (he : starEach (e :: es) X.env = (false, eval e X.env) :: starEach es X.env := by rfl) (hpl : (backTo pos (starEach es X.env)).any (·.1) = false := by rfl) :
  PE X (.Call (.Name x p) (e :: es) [] pos) (qj9 sp dvs E t) := by
 intro pins s σ H Q I h
 refine wpAny_Call_Name_kw (q59 I hg hm ?_ hdb)
 refine PySem.W.callWith_K (h₀ := X.base) I.ok.mod.kin hk (thn (ha pos pins s σ H _ I h) fun us s1 ⟨vs, H1, I1, r, q⟩ => ⟨I1.kIn, ?_⟩) he hpl
 exact qci F hr hb hd hx I1 r q
theorem qgv {pl : Sem Bool} (he : PE X o ta) (c : Cls X.K C) (hm : Meth X.K C m f) (F : FnOk X.prog X.w X.K X.mg X.base CX k f fd ps sp) (hr : Room k X.A) (hb : q48 X.K fd ps ds) (hd : Vals dvs ds) (hx : q30 CX X E) (ha : PA X (e :: es) t)
  (hst : starEach (e :: es) X.env = (false, eval e X.env) :: starEach es X.env := by rfl) (hpl : (backTo pos (starEach es X.env)).any (·.1) = false := by rfl)
  (ht : eval (.Call (.Attribute o m apos) (e :: es) [] pos) X.env = (do
   let ov ← eval o X.env
   standAt apos.atName
   let (f, first) ← holding [ov] (getMethod ov m pl)
   callWith pos f first (backTo pos (starEach (e :: es) X.env)) (backToKw pos (keywordEach [] X.env))) := by rfl) :
  PE X (.Call (.Attribute o m apos) (e :: es) [] pos) (qeg C m sp dvs E ta t) := by
 intro pins s σ H Q I h
 refine PySem.W.methodCall_KW (pl := pl) (thn (he pins s σ H _ I h) fun u s1 ⟨x, H1, I1, rx, a, dx, fs, ex, ea, l, q⟩ => ?_) ht
 subst ex
 obtain rfl : u = Value.ref a := rx
 refine q3b I1 ea c hm l ?_
 refine PySem.W.callWith_K (first := [.ref a]) (h₀ := X.base) I.ok.mod.kin hm.kp (thn (ha pos pins s1 σ H1 _ I1 q) fun us s2 ⟨vs, H2, I2, r, q2⟩ => ⟨I2.kIn, ?_⟩) hst hpl
 exact qci (us := .ref a :: us) (vs := .ref a :: vs) F hr hb hd hx I2 (.cons rfl r) q2
theorem qej {pl : Sem Bool} (he : PE X o ta) (c : Cls X.K C) (hm : Meth X.K C m f) (F : FnOk X.prog X.w X.K X.mg X.base CX k f fd ps sp) (hr : Room k X.A) (hb : q48 X.K fd ps ds) (hd : Vals dvs ds) (hx : q30 CX X E)
  (ht : eval (.Call (.Attribute o m apos) [] [] pos) X.env = (do
   let ov ← eval o X.env
   standAt apos.atName
   let (f, first) ← holding [ov] (getMethod ov m pl)
   callWith pos f first (backTo pos (starEach [] X.env)) (backToKw pos (keywordEach [] X.env))) := by rfl) :
  PE X (.Call (.Attribute o m apos) [] [] pos) (qeg C m sp dvs E ta tNil) := by
 intro pins s σ H Q I h
 refine PySem.W.methodCall_KW (pl := pl) (thn (he pins s σ H _ I h) fun u s1 ⟨x, H1, I1, rx, a, dx, fs, ex, ea, l, q⟩ => ?_) ht
 subst ex
 obtain rfl : u = Value.ref a := rx
 refine q3b I1 ea c hm l ?_
 exact PySem.W.callWith_K0 (first := [.ref a]) I1.kIn hm.kp (qci (us := [.ref a]) (vs := [.ref a]) F hr hb hd hx I1 (.cons rfl .nil) q)
structure Mk (K : PySem.W.Frag) (C f : Addr) : Prop where
 makes : PySem.W.makesIn K C = true
 init : PySem.W.findIn K (.ref C) "__init__" = some (some (.ref f))
 fn : PySem.W.isFn K (.ref f) = true
 kp : PySem.W.keepIn K (.ref C) = true
theorem qdt {pins : List (Addr × Obj)} {σ : St} {H : Hp} {s : Shared} {Q : VK} {us : List Value} {vs : List V} (M : Mk X.K C f) (F : FnOk X.prog X.w X.K X.mg X.base CX k f fd ps sp) (hr : Room (k + 1) X.A) (hb : q48 X.K fd ps ds) (hd : Vals dvs ds)
  (hx : q30 CX X E) (I : Inv X pins σ H s) (r : Vals vs us)
  (h : ∀ x dx, H x = none → H dx = none → dx ≠ x → sp (.ref x :: (vs ++ dvs)) (upd (upd H dx (.own x)) x (.ins C dx [])) (fun v H2 => v = .non ∧ Q (.ref x) H2) E) :
  wpAny (model X.prog X.w) X.A (call (.ref C) us) (EP X pins σ Q) X.xe s := by
 have hq := h (s.heap.objs.size + 1) s.heap.objs.size (I.hok.fresh (Nat.le_succ _)) (I.hok.fresh (Nat.le_refl _)) (Nat.ne_of_lt (Nat.lt_succ_self _))
 have I2 := Inv.made (C := C) I
 have r2 : Vals (V.ref (s.heap.objs.size + 1) :: (vs ++ dvs)) (Value.ref (s.heap.objs.size + 1) :: (us ++ ds)) := .cons rfl (r.append hd)
 have hl : (Value.ref (s.heap.objs.size + 1) :: us ++ ds).length = ps.length := by
  have e := r2.length
  rw [F.len _ _ _ _ hq] at e
  exact e.symm
 refine wpAny_call (qes (f := f) I.kIn M.makes M.init (beq_iff_eq.mp M.fn) (codeAny_mono (F.run _ X.stack _ _ ⟨Value.ref (s.heap.objs.size + 1) :: us, []⟩ (Value.ref (s.heap.objs.size + 1) :: (us ++ ds)) _ _ E (hr.make C us [])
  (I2.env0.make C us []) (hb _ (Value.ref (s.heap.objs.size + 1) :: us) I2.kIn hl) r2 hq) fun r s' hq' => ?_))
 cases r with
 | error e => exact hx pins σ _ _ e s' I2 hq'
 | ok fl =>
  cases fl with
  | ret u =>
   obtain ⟨v, H', I3, rv, ev, q3⟩ := I2.after hq'
   subst ev
   exact ⟨rv, ⟨V.ref (s.heap.objs.size + 1), H', I3, rfl, q3⟩⟩
  | next => exact False.elim hq'
  | brk => exact False.elim hq'
  | cont => exact False.elim hq'
theorem qgt (M : Mk X.K C f) (F : FnOk X.prog X.w X.K X.mg X.base CX k f fd ps sp) (hr : Room (k + 1) X.A) (hg : Gl X x) (hm : X.mg x = some (.ref C)) (hb : q48 X.K fd ps ds) (hd : Vals dvs ds) (hx : q30 CX X E)
  (ha : PA X (e :: es) t) (hdb : (x == ("__debug__" : Str)) = false := by decide) (he : starEach (e :: es) X.env = (false, eval e X.env) :: starEach es X.env := by rfl) (hpl : (backTo pos (starEach es X.env)).any (·.1) = false := by rfl) :
  PE X (.Call (.Name x p) (e :: es) [] pos) (qj5 C sp dvs E t) := by
 intro pins s σ H Q I h
 refine wpAny_Call_Name_kw (q59 I hg hm ?_ hdb)
 refine PySem.W.callWith_K (h₀ := X.base) I.ok.mod.kin M.kp (thn (ha pos pins s σ H _ I h) fun us s1 ⟨vs, H1, I1, r, q⟩ => ⟨I1.kIn, ?_⟩) he hpl
 exact qdt M F hr hb hd hx I1 r q
end
section
variable {X : Cx} {CX : CXT} {k : Nat} {f C : Addr} {fd : FuncData} {ps ks : List Str} {sp : Sp} {E : XK} {x m : Str} {p pos apos kpos : Pos} {e o : Expr} {es : List Expr} {kws : List Keyword} {te ta : TE} {t tk : TA} {nm : Option Str}
structure KBinds (K : PySem.W.Frag) (fd : FuncData) (ps ks : List Str) (g : List Value → List Value → List Value) (gV : List V → List V → List V) : Prop where
 to : ∀ (s : Shared) (us ws : List Value), K.In s.heap → (g us ws).length = ps.length → BindsTo s fd ⟨us, ks.zip ws⟩ (ps.zip (g us ws))
 rel : ∀ {vs : List V} {us : List Value} {zs : List V} {ws : List Value}, Vals vs us → Vals zs ws → Vals (gV vs zs) (g us ws)
variable {g : List Value → List Value → List Value} {gV : List V → List V → List V}
end
structure FnScope (N P : List Str) (sc : Scope) : Prop where
 kind : sc.kind = .function
 co : sc.isCoroutine = false
 gen : sc.isGenerator = false
 nd : N.Nodup
 pre : N.take P.length = P
 par : ∀ x ∈ P, sc.names.lookup x = some .local ∨ sc.names.lookup x = some .cell
 nofree : ∀ y ∈ sc.names, y.2 ≠ .free
theorem q6z {kindOf : Str → Option NameKind} {x : Str} : ∀ {binds : List (Str × Value)} {m : Str → Option Value}, (∀ v, (x, v) ∉ binds) → bindL kindOf binds m x = m x
 | [], _, _ => rfl
 | (n, v) :: r, m, h => by
  unfold bindL
  rw [q6z fun w hw => h w (List.mem_cons_of_mem _ hw)]
  split
  ·have : x ≠ n := by rintro rfl; exact h v List.mem_cons_self
   simp [this]
  ·rfl
theorem q78 {kindOf : Str → Option NameKind} {x : Str} : ∀ {binds : List (Str × Value)} {m : Str → Option Value}, (∀ v, (x, v) ∉ binds) → bindC kindOf binds m x = m x
 | [], _, _ => rfl
 | (n, v) :: r, m, h => by
  unfold bindC
  rw [q78 fun w hw => h w (List.mem_cons_of_mem _ hw)]
  split
  ·rfl
  ·have : x ≠ n := by rintro rfl; exact h v List.mem_cons_self
   simp [this]
theorem q7q {kindOf : Str → Option NameKind} {x : Str} {v : Value} : ∀ {P : List Str} {vs : List Value} {i : Nat} {m : Str → Option Value}, P.Nodup → P[i]? = some x → vs[i]? = some v → kindOf x = some .local →
  bindL kindOf (P.zip vs) m x = some v
 | [], _, _, _, _, h, _, _ => by simp at h
 | _ :: _, [], _, _, _, _, h, _ => by simp at h
 | p :: P, w :: vs, 0, m, nd, h1, h2, hk => by
  simp at h1 h2; subst h1; subst h2
  show bindL kindOf ((p, w) :: P.zip vs) m p = _
  unfold bindL
  rw [q6z fun v hv => (List.nodup_cons.mp nd).1 (List.of_mem_zip hv).1, if_pos hk]
  simp
 | p :: P, w :: vs, i + 1, m, nd, h1, h2, hk => by
  show bindL kindOf ((p, w) :: P.zip vs) m x = _
  unfold bindL
  exact q7q (i := i) (List.nodup_cons.mp nd).2 (by simpa using h1) (by simpa using h2) hk
theorem q82 {kindOf : Str → Option NameKind} {x : Str} {v : Value} : ∀ {P : List Str} {vs : List Value} {i : Nat} {m : Str → Option Value}, P.Nodup → P[i]? = some x → vs[i]? = some v → kindOf x ≠ some .local →
  bindC kindOf (P.zip vs) m x = some v
 | [], _, _, _, _, h, _, _ => by simp at h
 | _ :: _, [], _, _, _, _, h, _ => by simp at h
 | p :: P, w :: vs, 0, m, nd, h1, h2, hk => by
  simp at h1 h2; subst h1; subst h2
  show bindC kindOf ((p, w) :: P.zip vs) m p = _
  unfold bindC
  rw [q78 fun v hv => (List.nodup_cons.mp nd).1 (List.of_mem_zip hv).1, if_neg hk]
  simp
 | p :: P, w :: vs, i + 1, m, nd, h1, h2, hk => by
  show bindC kindOf ((p, w) :: P.zip vs) m x = _
  unfold bindC
  exact q82 (i := i) (List.nodup_cons.mp nd).2 (by simpa using h1) (by simpa using h2) hk
def start (N : List Str) (vs : List V) : St := vs.map some ++ List.replicate (N.length - vs.length) none
def cxOf (CX : CXT) (P : Program) (w : World) (K : PySem.W.Frag) (mg : Str → Option Value) (base : Heap) (N : List Str) (qual : Str) (scope : Scope) (f : Addr) (cd : Value) (A : Around) (outer : List Env) (s : Shared) (H : Hp) (E : XK) : Cx where
 prog := P
 w := w
 K := K
 mg := mg
 base := base
 A := A.deeper (envOfC qual scope s.heap.objs.size f cd)
 N := N
 s₀ := s
 H₀ := H
 env := envOfC qual scope s.heap.objs.size f cd
 outer := outer
 stack := envOfC qual scope s.heap.objs.size f cd :: outer
 ex := []
 calm := true
 fn := fun _ => true
 pn := []
 xe := fun e s' => wpAny (model P w) (A.deeper (envOfC qual scope s.heap.objs.size f cd)) (leaving (envOfC qual scope s.heap.objs.size f cd) e) (fun _ s'' => CX outer H s E e s'') (fun e' s'' => CX outer H s E e' s'') s'
theorem q8y {sc : Scope} {n : Nat} {x : Str} (h : sc.names.lookup x = some .cell) : ∃ c, (cellsFrom n sc.names []).lookup x = some c := by
 have q := PySem.W.cellsFrom_some sc.names n [] (.inl h)
 exact Option.isSome_iff_exists.mp q
theorem qb4 {CX : CXT} {P : Program} {w : World} {K : PySem.W.Frag} {mg : Str → Option Value} {base : Heap} {N ps : List Str} {qual : Str} {scope : Scope} {f : Addr} {cd : Value} {A : Around} {outer : List Env} {s s1 : Shared} {H : Hp} {E : XK} {us : List Value} {vs : List V}
  (S : FnScope N ps scope) (hd : A.handled = none) (e0 : Env0 P w K mg base A outer s H) (hl : vs.length = ps.length) (r : Vals vs us)
  (x : InCallC s s.heap.objs.size (bindL (envOfC qual scope s.heap.objs.size f cd).kindOf (ps.zip us) fun _ => none) (cellsFrom (s.heap.objs.size + 1) scope.names []) (bindC (envOfC qual scope s.heap.objs.size f cd).kindOf (ps.zip us) fun _ => none) s1) :
  Inv (cxOf CX P w K mg base N qual scope f cd A outer s H E) [] (start N vs) H s1 := by
 have hpl : ps.length ≤ N.length := by have := congrArg List.length S.pre; rw [List.length_take] at this; omega
 obtain ⟨h1, tk, rfl, hk⟩ := x.done
 have noA : ∀ b : Addr, b ∉ (cxOf CX P w K mg base N qual scope f cd A outer s H E).ex := fun b z => absurd (show b ∈ ([] : List Addr) from z) (by simp)
 refine ⟨⟨e0.mod, S.kind, rfl, rfl, Nat.le_refl _, fun y z c h1 h2 => ?_, fun y hy => ?_, fun y c _ h => ?_, fun _ => hd, Around.frames_deeper e0.frames, .inr ⟨rfl, rfl⟩, fun b z => absurd z (noA b), e0.bs, e0.bsz, fun b _ _ => noA b, fun b z => absurd z (noA b), e0.funs, e0.frf⟩,
  rfl, e0.bare, Un.kept hk, ⟨_, x.toInCall.ns, fun i y v h1 h2 h3 => ?_⟩, fun y c h => ⟨_, x.cell y c h⟩, e0.hok.fresh (Nat.le_refl _), fun y c h => ?_, fun p hp => absurd (show p ∈ ([] : List (Addr × Obj)) from hp) (by simp), e0.hok.kept hk, ?_⟩
 ·exact name_of_addr x.apart (PySem.mem_of_lookup h1) (PySem.mem_of_lookup h2)
 ·have hy : scope.names.lookup y = some .cell ∨ scope.names.lookup y = some .free := hy
  rcases hy with hy | hy
  ·exact q8y hy
  ·exact absurd rfl (S.nofree _ (PySem.mem_of_lookup hy))
 ·exact Nat.le_of_lt (x.above y c (PySem.mem_of_lookup h))
 ·have hi : i < vs.length := by
   unfold start at h2
   by_cases hi : i < vs.length
   ·exact hi
   ·rw [List.getElem?_append_right (by simpa using hi)] at h2
    rw [List.getElem?_replicate] at h2
    split at h2 <;> cases h2
  have ha : vs[i]? = some v := by
   unfold start at h2
   rw [List.getElem?_append_left (by simpa using hi), List.getElem?_map] at h2
   cases e : vs[i]? with
   | none => rw [e] at h2; cases h2
   | some a => rw [e] at h2; cases h2; rfl
  obtain ⟨u, hu, rv⟩ := r.get ha
  have hp : ps[i]? = some y := by
   rw [← S.pre, List.getElem?_take_of_lt (by omega)]; exact h1
  have ndP : ps.Nodup := by rw [← S.pre]; exact S.nd.sublist (List.take_sublist _ _)
  refine ⟨u, rv, ?_⟩
  rcases S.par y (List.mem_of_getElem? hp) with k | k
  ·exact .inl ⟨k, q7q ndP hp hu k⟩
  ·obtain ⟨c, e⟩ := q8y (n := s.heap.objs.size + 1) k
   refine .inr ⟨.inl k, c, e, ?_⟩
   have q := x.cell y c e
   rw [q82 ndP hp hu (by show scope.names.lookup y ≠ _; rw [k]; decide)] at q
   exact q
 ·exact e0.hok.fresh (Nat.le_of_lt (x.above y c (PySem.mem_of_lookup h)))
 ·unfold start
  show _ = N.length
  rw [List.length_append, List.length_map, List.length_replicate]
  omega
theorem qi6 {CX : CXT} {P : Program} {w : World} {K : PySem.W.Frag} {mg : Str → Option Value} {base : Heap} {k : Nat} {f : Addr} {name qual : Str} {params : Arguments} {body : List Stmt} {scope : Scope} {dV kV doc pm cdv ct oc : Value} {an od : Option Addr}
  {osl : Array (Option Value)} {N ps : List Str} {sp : Sp} (lk : K.lookup f = some ⟨oc, od, .func (PySem.W.fnOf name qual params body scope dV kV doc pm an cdv ct), osl⟩) (hcd : PySem.W.codeIn K cdv qual = true) (S : FnScope N ps scope)
  (len : ∀ vs H Q E, sp vs H Q E → vs.length = ps.length)
  (hbody : ∀ (A : Around) (outer : List Env) (s : Shared) (H : Hp) (vs : List V) (Q : VK) (E : XK), Room k (A.deeper (envOfC qual scope s.heap.objs.size f cdv)) → sp vs H Q E →
   ∃ t, PSs (cxOf CX P w K mg base N qual scope f cdv A outer s H E) body t ∧ t { nx := fun _ H' => Q .non H', rt := Q } (start N vs) H) :
  FnOk P w K mg base CX (k + 1) f (PySem.W.fnOf name qual params body scope dV kV doc pm an cdv ct) ps sp := by
 refine ⟨len, fun A outer s H args us vs Q E hr e0 hb r hsp => ?_⟩
 have hl := len _ _ _ _ hsp
 have KX : K.In s.heap := e0.mod.kin.keeps fun b o e => (e0.bs b o e).1
 have lim : s.heap.NoLimit := e0.mod.nolimit.keeps fun b o e => (e0.bs b o e).1
 have hkind : ∀ y ∈ ps.zip us, scope.names.lookup y.1 = some .local ∨ (scope.names.lookup y.1 = some .cell ∧ ((cellsFrom (s.heap.objs.size + 1) scope.names []).lookup y.1).isSome = true) := fun ⟨n, v⟩ hy => by
  rcases S.par n (List.of_mem_zip hy).1 with q | q
  ·exact .inl q
  ·exact .inr ⟨q, PySem.W.cellsFrom_some _ _ _ (.inl q)⟩
 refine codeAny_call_function hr.depth (KX _ _ lk) rfl S.co S.gen rfl (PySem.W.codeRec_of KX hcd) (hb _ _ _ _ ?_)
 refine wpAny_newFunctionEnv_cells S.kind hkind fun env he s1 x => ?_
 subst he
 refine ⟨lim.keeps x.toInCall.keep, codeAny_func ?_⟩
 obtain ⟨t, ht, hq⟩ := hbody A outer s H vs Q E (hr.deeper _) hsp
 have I : Inv (cxOf CX P w K mg base N qual scope f cdv A outer s H E) [] (start N vs) H s1 := qb4 S hr.hd e0 hl r x
 refine wpAny_mono (ht [] s1 (start N vs) H _ I hq) (fun fl s' hs => ?_) fun e s' hs => hs
 have fin : ∀ {σ' : St} {H' : Hp} {v : V} {u : Value}, Inv (cxOf CX P w K mg base N qual scope f cdv A outer s H E) [] σ' H' s' → RelV v u → Q v H' → CE outer P w H s Q u s' :=
  fun {σ' H' v u} J rv q => ⟨v, H', J.os, J.bare, J.base, J.hok, rv, q⟩
 cases fl with
 | ret u =>
  obtain ⟨v, σ', H', J, rv, q⟩ := hs
  exact fin J rv q
 | next =>
  obtain ⟨σ', H', J, q⟩ := hs
  exact fin (v := V.non) (u := Value.none) J rfl q
 | brk =>
  obtain ⟨_, _, _, q⟩ := hs
  exact False.elim q
 | cont =>
  obtain ⟨_, _, _, q⟩ := hs
  exact False.elim q
end L2
namespace L2
open PySem PySem.Spec PyProof.Rows
section
variable {X : Cx} {x : Str} {p pos : Pos} {e : Expr} {es : List Expr} {t : TA} {id T : String} {r : List V → Hp → VK → Prop}
def tCB (r : List V → Hp → VK → Prop) (t : TA) : TE := fun σ H Q => t σ H fun vs H1 => r vs H1 Q
theorem q0f (hc : q55 X (.builtin id) r) (hg : Gl X x) (hm : X.mg x = none) (hv : bootBuiltins x = some (.builtin id)) (ha : PA X (e :: es) t) (hn : x ≠ "__name__" := by decide) (hdb : (x == ("__debug__" : Str)) = false := by decide)
  (he : starEach (e :: es) X.env = (false, eval e X.env) :: starEach es X.env := by rfl) (hpl : (backTo pos (starEach es X.env)).any (·.1) = false := by rfl) : PE X (.Call (.Name x p) (e :: es) [] pos) (tCB r t) := by
 intro pins s σ H Q I h
 refine wpAny_Call_Name_kw (q8s I hg hm hv ?_ hn hdb)
 exact PyProof.Rows.callWith_builtin1 (thn (ha pos pins s σ H _ I h) fun us s1 ⟨vs, H1, I1, r1, q1⟩ => hc pins s1 σ H1 vs us Q I1 r1 q1) he hpl
theorem q27 (hc : q55 X (.type T) r) (hg : Gl X x) (hm : X.mg x = none) (hv : bootBuiltins x = some (.type T)) (ha : PA X (e :: es) t) (hn : x ≠ "__name__" := by decide) (hdb : (x == ("__debug__" : Str)) = false := by decide)
  (he : starEach (e :: es) X.env = (false, eval e X.env) :: starEach es X.env := by rfl) (hpl : (backTo pos (starEach es X.env)).any (·.1) = false := by rfl) : PE X (.Call (.Name x p) (e :: es) [] pos) (tCB r t) := by
 intro pins s σ H Q I h
 refine wpAny_Call_Name_kw (q8s I hg hm hv ?_ hn hdb)
 exact PyProof.Rows.callWith_type1 (thn (ha pos pins s σ H _ I h) fun us s1 ⟨vs, H1, I1, r1, q1⟩ => hc pins s1 σ H1 vs us Q I1 r1 q1) he hpl
end
end L2
namespace HT
open PySem PyProof.Rows
section
open PySem.SeqAt
open PySem.AutoSeq1 (wpAny_loadPart')
open PySem.MeetsSeq PySem.MeetsSeq2 PySem.MeetsSeq3
end
section
variable {prog : Program} {w : World} {A : Around} {E : Value → Shared → Prop} {s : Shared}
def sIx (n d : Nat) : Option Int → Nat
 | none => d
 | some v => if v < 0 then (v + (n : Int)).toNat else min v.toNat n
theorem sIx_none (n d : Nat) : sIx n d none = d := rfl
theorem sIx_nat (n d k : Nat) : sIx n d (some (k : Int)) = min k n := by
 show (if (k : Int) < 0 then ((k : Int) + (n : Int)).toNat else min (k : Int).toNat n) = min k n
 rw [if_neg (by omega), Int.toNat_natCast]
end
end HT
namespace L2
open PySem PySem.Spec PyProof.Rows
abbrev TO := St → Hp → (Option Int → Hp → Prop) → Prop
def PO (X : Cx) (e : Option Expr) (t : TO) : Prop :=
 ∀ (pins : List (Addr × Obj)) (s : Shared) (σ : St) (H : Hp) (Q : Option Int → Hp → Prop), Inv X pins σ H s → t σ H Q →
  wpAny (model X.prog X.w) X.A (evalPart e X.env) (fun u s' => ∃ o H', Inv X pins σ H' s' ∧ IsPart u o ∧ Q o H') X.xe s
def qh8 : TO := fun _ H Q => Q none H
def qke (t : TE) : TO := fun σ H Q => t σ H fun x H1 => ∃ i, x = .int i ∧ Q (some i) H1
section
variable {X : Cx} {e : Expr} {te : TE} {lo hi : Option Expr} {tl th : TO} {pos p2 : Pos}
theorem qha : PO X none qh8 := by
 intro pins s σ H Q I h
 rw [evalPart_none]
 exact wpAny_pure ⟨none, H, I, .none, h⟩
theorem q8h (h : PE X e te) : PO X (some e) (qke te) := by
 intro pins s σ H Q I hw
 rw [evalPart_some]
 refine thn (h pins s σ H _ I hw) fun u s1 ⟨x, H1, I1, r1, q1⟩ => ?_
 obtain ⟨i, rfl, q⟩ := q1
 obtain ⟨t, rfl⟩ := r1
 exact ⟨some i, H1, I1, .int i t, q⟩
def SlR (X : Cx) (r : V → Option Int → Option Int → Hp → VK → Prop) : Prop :=
 ∀ (pins : List (Addr × Obj)) (s : Shared) (σ : St) (H : Hp) (x : V) (v vl vu : Value) (lo hi : Option Int) (sl : Addr) (Q : VK), Inv X pins σ H s → RelV x v → s.heap.IsSliceOf sl vl vu .none → IsPart vl lo → IsPart vu hi → r x lo hi H Q →
  ∃ T id, typeLookup (.type T) "__getitem__" = pure (some (.builtin id)) ∧ s.TypeIs v T ∧ wpAny (model X.prog X.w) X.A (getItem v (.ref sl)) (EP X pins σ Q) X.xe s
def tSl (r : V → Option Int → Option Int → Hp → VK → Prop) (te : TE) (tl th : TO) : TE := fun σ H Q => te σ H fun x H1 => tl σ H1 fun l H2 => th σ H2 fun u H3 => r x l u H3 Q
theorem q8v {r : V → Option Int → Option Int → Hp → VK → Prop} (hr : SlR X r) (he : PE X e te) (hl : PO X lo tl) (hu : PO X hi th) : PE X (.Subscript e (.Slice lo hi none p2) pos) (tSl r te tl th) := by
 intro pins s σ H Q I h
 refine Subscript_ (thn (he pins s σ H _ I h) fun v s1 ⟨x, H1, I1, r1, q1⟩ => ?_)
 refine wpAny_Slice (thn (hl pins s1 σ H1 _ I1 q1) fun vl s2 ⟨l, H2, I2, pl, q2⟩ => thn (hu pins s2 σ H2 _ I2 q2) fun vu s3 ⟨u, H3, I3, pu, q3⟩ => ?_)
 rw [evalPart_none]
 refine wpAny_pure ?_
 have I4 : Inv X pins σ H3 { s3 with heap := s3.heap.push { cls := .type "slice", data := .fields #[vl, vu, .none] } } := I3.kept (t' := s3.toks) fun b ob q => Heap.get?_push_of_some _ q
 obtain ⟨T, id, hT, ht, hg⟩ := hr pins { s3 with heap := s3.heap.push { cls := .type "slice", data := .fields #[vl, vu, .none] } } σ H3 x v vl vu l u s3.heap.objs.size Q I4 r1 (Heap.IsSliceOf.new ..) pl pu q3
 show wpAny (model X.prog X.w) X.A (subscriptTail e (.Slice lo hi none p2) v (.ref s3.heap.objs.size)) (EP X pins σ Q) X.xe { s3 with heap := s3.heap.push { cls := .type "slice", data := .fields #[vl, vu, .none] } }
 exact tail_any (ops := [.ref s3.heap.objs.size, v]) ht hT hg (by with_unfolding_all rfl)
def cutV (xs : List V) (lo hi : Option Int) : List V := (xs.drop (HT.sIx xs.length 0 lo)).take (HT.sIx xs.length xs.length hi - HT.sIx xs.length 0 lo)
theorem q86 (xs : List V) (lo hi : Option Int) : (cutV xs lo hi).length ≤ xs.length := by
 unfold cutV
 rw [List.length_take, List.length_drop]
 omega
end
end L2
namespace L2
open PySem PySem.Spec PyProof.Rows
def ixN (n : Nat) (i : Int) : Option Nat := if 0 ≤ i then (if i < n then some i.toNat else none) else if -(n : Int) ≤ i then some (i + n).toNat else none
def atI {α : Type} (xs : List α) (i : Int) : Option α := (ixN xs.length i).bind fun j => xs[j]?
theorem qhp {n : Nat} {i : Int} {j : Nat} (h : ixN n i = some j) : seqIndex? i n = some j ∧ j < n ∧ -(n : Int) ≤ i ∧ i < n := by
 unfold ixN at h
 by_cases h0 : 0 ≤ i
 ·rw [if_pos h0] at h
  by_cases h1 : i < n
  ·rw [if_pos h1] at h
   have e : i.toNat = j := Option.some.inj h
   exact ⟨by rw [seqIndex_of h0 h1, e], by omega, by omega, h1⟩
  ·rw [if_neg h1] at h; cases h
 ·rw [if_neg h0] at h
  by_cases h1 : -(n : Int) ≤ i
  ·rw [if_pos h1] at h
   have e : (i + n).toNat = j := Option.some.inj h
   exact ⟨by rw [seqIndex_neg (by omega) h1, e], by omega, h1, by omega⟩
  ·rw [if_neg h1] at h; cases h
theorem q8g {α : Type} {xs : List α} {i : Int} {v : α} (h : atI xs i = some v) : ∃ j, seqIndex? i xs.length = some j ∧ xs[j]? = some v ∧ j < xs.length ∧ -(xs.length : Int) ≤ i ∧ i < xs.length := by
 unfold atI at h
 cases e : ixN xs.length i with
 | none => rw [e] at h; cases h
 | some j =>
  rw [e] at h
  obtain ⟨h1, h2, h3, h4⟩ := qhp e
  exact ⟨j, h1, h, h2, h3, h4⟩
theorem q07 {α : Type} {xs : List α} {j : Nat} {v : α} (h : xs[j]? = some v) : atI xs (j : Int) = some v := by
 have hj : j < xs.length := (List.getElem?_eq_some_iff.mp h).1
 have e : ixN xs.length (j : Int) = some j := by
  unfold ixN
  rw [if_pos (by omega), if_pos (by omega)]; simp
 unfold atI; rw [e]; exact h
theorem qe8 {α : Type} (xs : List α) (v : α) : atI (xs ++ [v]) (-1) = some v := by
 have hl : (xs ++ [v]).length = xs.length + 1 := by simp
 have e : ixN (xs ++ [v]).length (-1) = some xs.length := by
  unfold ixN
  rw [hl, if_neg (by decide), if_pos (by omega)]
  congr 1
  omega
 unfold atI
 rw [e]
 show (xs ++ [v])[xs.length]? = some v
 simp
def qho (b : Expr) : Prop := ∀ o i, subscripted b false o i = operate [o, i] (getItem o i)
def IxR (X : Cx) (r : R2) : Prop :=
 ∀ (value slice : Expr) (pins : List (Addr × Obj)) (s : Shared) (σ : St) (H : Hp) (x y : V) (v u : Value) (Q : VK), Inv X pins σ H s → RelV x v → RelV y u → r x y H Q →
  subscripted slice false v u = operate [v, u] (getItem v u) → wpAny (model X.prog X.w) X.A (subscriptTail value slice v u) (EP X pins σ Q) X.xe s
def MtR (X : Cx) (id : String) (r : V → List V → Hp → VK → Prop) : Prop :=
 ∀ (pins : List (Addr × Obj)) (s : Shared) (σ : St) (H : Hp) (x : V) (xs : List V) (v : Value) (us : List Value) (Q : VK), Inv X pins σ H s → RelV x v → Vals xs us → r x xs H Q →
  wpAny (model X.prog X.w) X.A (call (.builtin id) (v :: us)) (EP X pins σ Q) X.xe s
section
variable {X : Cx} {a b : Expr} {ta tb : TE} {pos : Pos}
theorem q0j {r : R2} (hr : IxR X r) (ha : PE X a ta) (hb : PE X b tb) (hs : qho b) : PE X (.Subscript a b pos) (tOp r ta tb) := by
 intro pins s σ H Q I h
 exact Subscript_ (binT ha hb I h fun v u s2 x y H2 I2 rx ry q => hr a b pins s2 σ H2 x y v u Q I2 rx ry q (hs _ _))
def rIxL (K : PySem.W.Frag) : R2 := fun x y H Q => ∃ p xs i v, x = .ref p ∧ y = .int i ∧ SqL K H p xs ∧ atI xs i = some v ∧ Q v H
def rIxT (K : PySem.W.Frag) : R2 := fun x y H Q => ∃ p xs i v, x = .ref p ∧ y = .int i ∧ SqT K H p xs ∧ atI xs i = some v ∧ Q v H
def rIxS : R2 := fun x y H Q => ∃ z i c, x = .str z ∧ y = .int i ∧ z.length ≤ sizeLine ∧ atI z.cps.toList i = some c ∧ Q (.str ⟨#[c]⟩) H
theorem q13 : IxR X (rIxL X.K) := by
 intro value slice pins s σ H x y v u Q I rx ry h hs
 obtain ⟨p, xs, i, z, rfl, rfl, hq, he, q⟩ := h
 cases rx
 obtain ⟨t, rfl⟩ := ry
 obtain ⟨its, r, pl, hz⟩ := I.list hq
 obtain ⟨j, h1, h2, h3, h4, h5⟩ := q8g he
 obtain ⟨w, ew, rw'⟩ := r.get h2
 have hl := r.length
 have hn := q75
 have fin : EP X pins σ Q w s := ⟨z, H, I, rw', q⟩
 by_cases h0 : 0 ≤ i
 ·have hj : i.toNat = j := by
   rw [seqIndex_of h0 h5] at h1
   exact Option.some.inj h1
  exact item_listR pl.isList h0 (by omega) (by rw [hj]; simpa using ew) fin hs
 ·have hj : (i + (its.toArray.size : Int)).toNat = j := by
   rw [seqIndex_neg (by omega) h4] at h1
   rw [List.size_toArray, ← hl]
   exact Option.some.inj h1
  exact subscriptTail_builtinR (x := w) pl.isList.typeIs slot_list_getitem.lookup
   (wpAny_getItem_list_neg (Q := fun r s' => r = w ∧ EP X pins σ Q r s') pl.isList (by omega) (by rw [List.size_toArray] <;> omega) (by omega) (by rw [hj]; simpa using ew) ⟨rfl, fin⟩) hs
theorem q0i : IxR X (rIxT X.K) := by
 intro value slice pins s σ H x y v u Q I rx ry h hs
 obtain ⟨p, xs, i, z, rfl, rfl, hq, he, q⟩ := h
 cases rx
 obtain ⟨t, rfl⟩ := ry
 obtain ⟨its, r, pl, hz⟩ := I.tuple hq
 obtain ⟨j, h1, h2, h3, h4, h5⟩ := q8g he
 obtain ⟨w, ew, rw'⟩ := r.get h2
 have hl := r.length
 have hn := q75
 have fin : EP X pins σ Q w s := ⟨z, H, I, rw', q⟩
 exact subscriptTail_builtinR (x := w) pl.typeIs slot_tuple_getitem.lookup
  (getItem_tuple (j := j) (Q := fun r s' => r = w ∧ EP X pins σ Q r s') pl (by omega) (by omega) (by rw [List.size_toArray, ← hl]; exact h1) (by simpa using ew) ⟨rfl, fin⟩) hs
theorem qf3 : IxR X rIxS := by
 intro value slice pins s σ H x y v u Q I rx ry h hs
 obtain ⟨z, i, c, rfl, rfl, hz, he, q⟩ := h
 obtain ⟨t, rfl⟩ := rx
 obtain ⟨t', rfl⟩ := ry
 obtain ⟨j, h1, h2, h3, h4, h5⟩ := q8g he
 have hl : z.cps.toList.length = z.length := by simp [Str.length]
 rw [hl] at h1 h4 h5
 have hn := q75
 exact tail_any (typeIs_str s z t) slot_str_getitem.lookup (getItem_str (c := c) (by
  have e1 : decide (i < -(2 ^ 63 : Int)) = false := decide_eq_false (by omega)
  have e2 : decide (i ≥ 2 ^ 63) = false := decide_eq_false (by omega)
  rw [e1, e2, Bool.or_false]) (by rw [h1]; simpa using h2) ⟨.str ⟨#[c]⟩, H, I.tok _, ⟨_, rfl⟩, q⟩) hs
theorem q7u (lo hi : Option Int) (n : Nat) : (sliceBounds lo hi none n).1 = ((HT.sIx n 0 lo : Nat) : Int) ∧ (sliceBounds lo hi none n).2.1 = ((HT.sIx n n hi : Nat) : Int) ∧ (sliceBounds lo hi none n).2.2 = 1 := by
 refine ⟨?_, ?_, rfl⟩
 ·cases lo with
  | none => simp [sliceBounds, HT.sIx]
  | some i =>
   simp only [sliceBounds, HT.sIx, Option.getD_none, show (1 : Int) > 0 by decide, if_true]
   by_cases h : i < 0
   ·simp only [h, if_true] <;> omega
   ·simp only [h, if_false] <;> omega
 ·cases hi with
  | none => simp [sliceBounds, HT.sIx]
  | some i =>
   simp only [sliceBounds, HT.sIx, Option.getD_none, show (1 : Int) > 0 by decide, if_true]
   by_cases h : i < 0
   ·simp only [h, if_true] <;> omega
   ·simp only [h, if_false] <;> omega
theorem q6c (its : List Value) (lo hi : Option Int) : slicePick its.toArray lo hi none = ((its.drop (HT.sIx its.length 0 lo)).take (HT.sIx its.length its.length hi - HT.sIx its.length 0 lo)).toArray := by
 obtain ⟨h1, h2, h3⟩ := q7u lo hi its.toArray.size
 unfold slicePick
 rw [h1, h2, h3]
 simp only [sliceRange_one, pick_run, List.size_toArray] <;> rfl
def rSlL (K : PySem.W.Frag) : V → Option Int → Option Int → Hp → VK → Prop := fun x lo hi H Q => ∃ a xs, x = .ref a ∧ SqL K H a xs ∧ ∀ p, H p = none → Q (.ref p) (upd H p (.lst (cutV xs lo hi)))
theorem qbe : SlR X (rSlL X.K) := by
 intro pins s σ H x v vl vu lo hi sl Q I rx hs pl pu h
 obtain ⟨a, xs, rfl, hx, q⟩ := h
 cases rx
 obtain ⟨its, r, ht, hz⟩ := I.list hx
 have hlen := r.length
 refine ⟨"list", _, slot_list_getitem.lookup, ht.isList.typeIs, ?_⟩
 refine wpAny_getItem_list_slice ht.isList hs pl pu .none (by simp) ?_ (by rw [List.size_toArray] <;> omega)
 rw [q6c, ← hlen]
 refine ⟨.ref s.heap.objs.size, _, I.laid (t' := s.toks) (o := .lst (cutV xs lo hi)) (fun b ob q => Heap.get?_push_of_some _ q) (Nat.le_refl _) ?_, rfl, q _ (I.hok.fresh (Nat.le_refl _))⟩
 exact ⟨Nat.le_trans (q86 xs lo hi) hz, _, 0, (r.drop (HT.sIx xs.length 0 lo)).take (HT.sIx xs.length xs.length hi - HT.sIx xs.length 0 lo), Heap.get?_push_size _ rfl⟩
def qe0 : V → Bool
 | .non => true
 | .bl _ => true
 | .int _ => true
 | .str _ => true
 | _ => false
def eqV : V → V → Bool
 | .non, .non => true
 | .bl a, .bl b => a == b
 | .bl a, .int b => (if a then 1 else 0) == b
 | .int a, .bl b => a == (if b then 1 else 0)
 | .int a, .int b => a == b
 | .str a, .str b => a == b
 | _, _ => false
theorem qib {A : Around} {s : Shared} {y x : V} {u v : Value} (ry : RelV y u) (rx : RelV x v) (fy : qe0 y = true) (fx : qe0 x = true) : SeqAt.EqAt A s u v (eqV y x) := by
 cases y with
 | non =>
  cases ry
  cases x with
  | non => cases rx; exact SeqAt.EqAt.same _
  | bl b => cases rx; exact SeqAt.EqAt.none_bool b
  | int b => obtain ⟨t, rfl⟩ := rx; exact SeqAt.EqAt.none_int b t
  | str b => obtain ⟨t, rfl⟩ := rx; exact SeqAt.EqAt.none_str b t
  | _ => exact absurd (show false = true from fx) Bool.false_ne_true
 | bl a =>
  cases ry
  cases x with
  | non => cases rx; exact SeqAt.EqAt.bool_none a
  | bl b => cases rx; exact SeqAt.EqAt.bool_bool a b
  | int b => obtain ⟨t, rfl⟩ := rx; exact SeqAt.EqAt.bool_int a b t
  | str b => obtain ⟨t, rfl⟩ := rx; exact SeqAt.EqAt.bool_str a b t
  | _ => exact absurd (show false = true from fx) Bool.false_ne_true
 | int a =>
  obtain ⟨t', rfl⟩ := ry
  cases x with
  | non => cases rx; exact SeqAt.EqAt.int_none a t'
  | bl b => cases rx; exact SeqAt.EqAt.int_bool a t' b
  | int b => obtain ⟨t, rfl⟩ := rx; exact SeqAt.EqAt.int_int a t' b t
  | str b => obtain ⟨t, rfl⟩ := rx; exact SeqAt.EqAt.int_str a t' b t
  | _ => exact absurd (show false = true from fx) Bool.false_ne_true
 | str a =>
  obtain ⟨t', rfl⟩ := ry
  cases x with
  | non => cases rx; exact SeqAt.EqAt.str_none a t'
  | bl b => cases rx; exact SeqAt.EqAt.str_bool a t' b
  | int b => obtain ⟨t, rfl⟩ := rx; exact SeqAt.EqAt.str_int a t' b t
  | str b => obtain ⟨t, rfl⟩ := rx; exact SeqAt.EqAt.str_str a t' b t
  | _ => exact absurd (show false = true from fx) Bool.false_ne_true
 | _ => exact absurd (show false = true from fy) Bool.false_ne_true
theorem q0k : q55 X (.builtin "len") (fun xs H Q => ∃ p ys, xs = [.ref p] ∧ (SqL X.K H p ys ∨ SqT X.K H p ys) ∧ Q (.int ys.length) H) := by
 intro pins s σ H xs us Q I r h
 obtain ⟨p, ys, rfl, hq, q⟩ := h
 obtain ⟨u, rfl, rx⟩ := q6g r
 cases rx
 have hn := q75
 rcases hq with hq | hq
 ·obtain ⟨its, r', pl, hz⟩ := I.list hq
  have hlen := r'.length
  exact Calls.call_len_list pl.isList (by simp only [List.size_toArray] <;> omega) ⟨.int ys.length, H, I.tok _, ⟨s.toks + 1, by rw [List.size_toArray, hlen]⟩, q⟩
 ·obtain ⟨its, r', pl, hz⟩ := I.tuple hq
  have hlen := r'.length
  exact len_tuple pl (by simp only [List.size_toArray] <;> omega) ⟨.int ys.length, H, I.tok _, ⟨s.toks + 1, by rw [List.size_toArray, hlen]⟩, q⟩
theorem q4h : q55 X (.type "list") (fun xs H Q => ∃ p ys, xs = [.ref p] ∧ (SqL X.K H p ys ∨ SqT X.K H p ys) ∧ ∀ l, H l = none → Q (.ref l) (upd H l (.lst ys))) := by
 intro pins s σ H xs us Q I r h
 obtain ⟨p, ys, rfl, hq, q⟩ := h
 obtain ⟨u, rfl, rx⟩ := q6g r
 cases rx
 have fin : ∀ (its : List Value), Vals ys its → ys.length ≤ sizeLine → ∀ (h' : Heap) (c' : Nat), (∀ b o', s.heap.get? b = some o' → h'.get? b = some o') →
   h'.get? s.heap.objs.size = some { cls := .type "list", dict := none, data := .seq its.toArray c', slots := #[] } → EP X pins σ Q (.ref s.heap.objs.size) { s with heap := h' } := fun its r' hz h' c' kp e =>
  ⟨.ref s.heap.objs.size, _, I.laid (t' := s.toks) kp (Nat.le_refl _) (show q1h X.prog X.w _ h' _ (.lst ys) from ⟨hz, its, c', r', e⟩), rfl, q _ (I.hok.fresh (Nat.le_refl _))⟩
 rcases hq with hq | hq
 ·obtain ⟨its, r', pl, hz⟩ := I.list hq
  have hlen := r'.length
  obtain ⟨o, ho, hc, n, hd⟩ := pl.isList
  exact call_list_seq p (.inl rfl) ho hc hd (fun h' c' kp e => fin its r' hz h' c' kp e) (by simp only [List.size_toArray] <;> omega)
 ·obtain ⟨its, r', pl, hz⟩ := I.tuple hq
  have hlen := r'.length
  obtain ⟨o, ho, hc, n, hd⟩ := pl
  exact call_list_seq p (.inr rfl) ho hc hd (fun h' c' kp e => fin its r' hz h' c' kp e) (by simp only [List.size_toArray] <;> omega)
def tyV (K : PySem.W.Frag) (T : String) (x : V) (H : Hp) : Prop := match x with
 | .str _ => T = "str"
 | .int _ => T = "int"
 | .ref p => (T = "list" ∧ ∃ xs, SqL K H p xs) ∨ (T = "tuple" ∧ ∃ o, K.lookup p = some o ∧ o.cls = .type "tuple" ∧ o.dict = none) ∨
   (T = "dict" ∧ ((∃ kvs, H p = some (.dK kvs)) ∨ ∃ kvs, H p = some (.dT kvs))) ∨ (T = "set" ∧ ∃ S n, H p = some (.set S n))
 | _ => False
theorem qf8 {pins : List (Addr × Obj)} {σ : St} {H : Hp} {s : Shared} {T : String} {x : V} {v : Value} (I : Inv X pins σ H s) (r : RelV x v) (ty : tyV X.K T x H) :
  s.TypeIs v T ∧ ∀ a, v = .ref a → ∃ ob, s.heap.get? a = some ob ∧ ob.dict = none := by
 cases x with
 | str z =>
  obtain ⟨t, rfl⟩ := r
  cases (show T = "str" from ty)
  exact ⟨typeIs_str s z t, fun _ e => nomatch e⟩
 | int i =>
  obtain ⟨t, rfl⟩ := r
  cases (show T = "int" from ty)
  exact ⟨typeIs_int s i t, fun _ e => nomatch e⟩
 | ref p =>
  cases r
  rcases ty with ⟨rfl, xs, hq⟩ | ⟨rfl, o, hk, hc, hd⟩ | ⟨rfl, hk⟩ | ⟨rfl, S, n, hk⟩
  ·obtain ⟨its, _, pl, _⟩ := I.list hq
   refine ⟨pl.isList.typeIs, fun a e => ?_⟩
   cases e
   obtain ⟨o, n, e, c, hd, _⟩ := pl
   exact ⟨o, e, hd⟩
  ·refine ⟨⟨o, I.kIn p o hk, hc⟩, fun a e => ?_⟩
   cases e
   exact ⟨o, I.kIn _ o hk, hd⟩
  ·have z : ∃ o, s.heap.get? p = some o ∧ o.ExactDict := by
    rcases hk with ⟨kvs, hk⟩ | ⟨kvs, hk⟩
    ·obtain ⟨_, _, _, _, o, _, _, e, ex, _⟩ := I.hok p _ hk
     exact ⟨o, e, ex⟩
    ·obtain ⟨_, _, _, _, o, _, _, e, ex, _⟩ := I.hok p _ hk
     exact ⟨o, e, ex⟩
   obtain ⟨o, e, ex⟩ := z
   refine ⟨⟨o, e, ex.1⟩, fun a e2 => ?_⟩
   cases e2
   exact ⟨o, e, ex.2.1⟩
  ·obtain ⟨o, _, _, _, e, ex, _⟩ := I.hok p _ hk
   refine ⟨⟨o, e, ex.1⟩, fun a e2 => ?_⟩
   cases e2
   exact ⟨o, e, ex.2.1⟩
 | _ => exact False.elim ty
def tBM0 (K : PySem.W.Frag) (T : String) (r : V → List V → Hp → VK → Prop) (to : TE) : TE := fun σ H Q => to σ H fun x H1 => tyV K T x H1 ∧ r x [] H1 Q
def tBM (K : PySem.W.Frag) (T : String) (r : V → List V → Hp → VK → Prop) (to : TE) (t : TA) : TE := fun σ H Q => to σ H fun x H1 => tyV K T x H1 ∧ t σ H1 fun xs H2 => r x xs H2 Q
variable {o e : Expr} {es : List Expr} {to : TE} {t : TA} {name : Str} {apos cpos : Pos} {T id : String} {r : V → List V → Hp → VK → Prop}
theorem qbn (pa : PlainAttrs T) (slot : Slot T name id) (hty : typeOf (.builtin id) = pure (.type "method_descriptor")) (hm : MtR X id r) (ho : PE X o to)
  (hbase : attributeBase o name X.env (eval o X.env) = eval o X.env := by rfl) (hline : (apos.endLine == cpos.line) = true := by rfl) : PE X (.Call (.Attribute o name apos) [] [] cpos) (tBM0 X.K T r to) := by
 intro pins s σ H Q I h
 refine wpAny_Call_method0_late hbase hline (thn (ho pins s σ H _ I h) fun v s1 ⟨x, H1, I1, r1, ty, q1⟩ => ?_)
 obtain ⟨h1, h2⟩ := qf8 I1 r1 ty
 exact ⟨T, id, pa, slot, hty, h1, h2, Calls.callWith_builtin rfl (PySem.evalArgs_none (hm pins s1 σ H1 x [] v [] Q I1 r1 .nil q1))⟩
theorem q51 (pa : PlainAttrs T) (slot : Slot T name id) (hty : typeOf (.builtin id) = pure (.type "method_descriptor")) (hm : MtR X id r) (ho : PE X o to) (ha : PA X (e :: es) t)
  (hbase : attributeBase o name X.env (eval o X.env) = eval o X.env := by rfl)
  (hfew : ((backTo cpos (starEach (e :: es) X.env)).all (fun x => !x.1) && (backToKw cpos (keywordEach [] X.env)).all (fun x => x.1.isSome)
   && decide ((e :: es).length + ([] : List Keyword).length + (if ([] : List Keyword).isEmpty then 0 else 1) < 30)) = true := by rfl)
  (hline : (apos.endLine == cpos.line) = true := by rfl) (hs : starEach (e :: es) X.env = (false, eval e X.env) :: starEach es X.env := by rfl) (hplain : (backTo cpos (starEach es X.env)).any (·.1) = false := by rfl) :
  PE X (.Call (.Attribute o name apos) (e :: es) [] cpos) (tBM X.K T r to t) := by
 intro pins s σ H Q I h
 refine wpAny_Call_method_late hbase hfew hline rfl (thn (ho pins s σ H _ I h) fun v s1 ⟨x, H1, I1, r1, ty, q1⟩ => ?_)
 obtain ⟨h1, h2⟩ := qf8 I1 r1 ty
 refine ⟨T, id, pa, slot, hty, h1, h2, ?_⟩
 have hA := ha cpos pins s1 σ H1 _ I1 q1
 rw [hs] at hA ⊢
 refine Calls.callWith_builtin (by show (false || (backTo cpos (starEach es X.env)).any (·.1)) = false; rw [hplain] <;> rfl) (Calls.evalArgs_plain ?_)
 exact thn hA fun us s2 ⟨vs, H2, I2, r2, q2⟩ => hm pins s2 σ H2 x vs v us Q I2 r1 r2 q2
/- xs.append(e), list.index on a module's tuple .. are MtR facts of 06m -/
end
end L2
namespace L2
open PySem PySem.Spec PyProof.Rows
def MtM (X : Cx) (id : String) (r : V → List V → Hp → VK → Prop) : Prop :=
 ∀ (pins : List (Addr × Obj)) (s : Shared) (σ : St) (H : Hp) (x : V) (xs : List V) (v : Value) (us : List Value) (Q : VK), Inv X pins σ H s → RelV x v → Vals xs us → r x xs H Q →
  wpAny (model X.prog X.w) X.A (call (.builtin id) (v :: us)) (EP X pins σ Q) X.xe s
theorem Vals.one : ∀ {x : V} {us : List Value}, Vals [x] us → ∃ u, us = [u] ∧ RelV x u
 | _, _, .cons r .nil => ⟨_, rfl, r⟩
theorem Vals.zero : ∀ {us : List Value}, Vals [] us → us = []
 | _, .nil => rfl
section
variable {X : Cx} {pins : List (Addr × Obj)} {σ : St} {H : Hp} {s : Shared} {l b : Addr} {xs ys zs : List V}
theorem Inv.lset {its its' : List Value} {n : Nat} {f : Array Value → Array Value} {t' : Nat} (I : Inv X pins σ H s) (hH : H l = some (.lst xs))
  (e : s.heap.get? l = some { cls := .type "list", data := .seq its.toArray n }) (hf : f its.toArray = its'.toArray) (hv : Vals ys its') (hz : ys.length ≤ sizeLine) :
  Inv X pins σ (upd H l (.lst ys)) { s with heap := s.heap.update l (Obj.mapSeq f), toks := t' } := by
 have q := PySem.IsL.update e f
 rw [hf] at q
 refine I.write (x := l) (e := l) (by rw [hH]; exact trivial) (.inl rfl) (fun b' u hb hu => (Heap.get?_update_other s.heap (Obj.mapSeq f) (Ne.symm hb)).trans hu) ⟨_, q⟩ ?_
 exact ⟨hz, its', _, hv, q⟩
theorem Inv.lnew {its : List Value} {t' : Nat} (I : Inv X pins σ H s) (hv : Vals ys its) (hz : ys.length ≤ sizeLine) :
  Inv X pins σ (upd H s.heap.objs.size (.lst ys)) { s with heap := s.heap.push { cls := .type "list", data := .seq its.toArray }, toks := t' } :=
 I.laid (fun _ _ q => Heap.get?_push_of_some _ q) (Nat.le_refl _) ⟨hz, its, 0, hv, Heap.get?_push_size _ rfl⟩
theorem Inv.fresh (I : Inv X pins σ H s) : H s.heap.objs.size = none := I.hok.fresh (Nat.le_refl _)
theorem Inv.lstM (I : Inv X pins σ H s) (hH : H l = some (.lst xs)) : xs.length ≤ sizeLine ∧ ∃ (its : List Value) (n : Nat), Vals xs its ∧ xs.length = its.length ∧ s.heap.get? l = some { cls := .type "list", data := .seq its.toArray n } := by
 obtain ⟨z, its, n, r, e⟩ := I.hok l _ hH
 exact ⟨z, its, n, r, r.length, e⟩
end
section
variable {X : Cx}
def qgp : V → List V → Hp → VK → Prop := fun x vs H Q => ∃ l xs y, x = .ref l ∧ vs = [y] ∧ H l = some (.lst xs) ∧ xs.length < sizeLine ∧ Q .non (upd H l (.lst (xs ++ [y])))
theorem q1e : MtM X "list.append" qgp := by
 intro pins s σ H x vs v us Q I rx rv h
 obtain ⟨l, xs, y, rfl, rfl, hH, hz, q⟩ := h
 cases rx
 obtain ⟨u, rfl, ru⟩ := rv.one
 obtain ⟨z, its, n, r, hl, e⟩ := I.lstM hH
 refine call_meets F.slot_list_append ⟨_, e, rfl⟩ F.entry_list_append (F.args_list_append_2 _ _) (PySem.list_append l its.toArray n u (by rw [List.size_toArray]; omega)) ⟨e, ?_⟩
 refine ⟨.non, _, I.lset (its' := its ++ [u]) hH e (by simp) (r.append (.cons ru .nil)) ?_, rfl, q⟩
 rw [List.length_append, List.length_singleton]
 omega
def rCat : R2 := fun x y H Q => ∃ l b xs zs, x = .ref l ∧ y = .ref b ∧ H l = some (.lst xs) ∧ H b = some (.lst zs) ∧ xs.length + zs.length ≤ sizeLine ∧ ∀ p, H p = none → Q (.ref p) (upd H p (.lst (xs ++ zs)))
theorem qfb : OpR X (binaryOp .Add) rCat := by
 intro pins s σ H x y v u Q I rx ry h
 obtain ⟨l, b, xs, zs, rfl, rfl, hH, hB, hz, q⟩ := h
 cases rx
 cases ry
 obtain ⟨z, its, n, r, hl, e⟩ := I.lstM hH
 obtain ⟨z2, its2, n2, r2, hl2, e2⟩ := I.lstM hB
 refine PySem.P.add_list e e2 ?_ (by rw [List.size_toArray, List.size_toArray]; omega)
 have ea : its.toArray ++ its2.toArray = (its ++ its2).toArray := by simp
 rw [ea]
 exact ⟨.ref _, _, I.lnew (t' := s.toks) (r.append r2) (by rw [List.length_append]; omega), rfl, q _ I.fresh⟩
end
section
variable {prog : Program} {w : World} {A : Around} {E : Value → Shared → Prop} {s : Shared}
end
section
variable {X : Cx}
end
end L2
namespace L2
open PySem PySem.Spec PyProof.Rows
section
variable {κ : Type} [DecidableEq κ]
def valV (kvs : List (κ × V)) (k : κ) : Option V := (kvs.find? fun kv => decide (kv.1 = k)).map (·.2)
def putK (kvs : List (κ × V)) (k : κ) (v : V) : List (κ × V) :=
 if (kvs.any fun kv => decide (kv.1 = k)) = true then kvs.map (fun kv => if kv.1 = k then (kv.1, v) else kv) else kvs ++ [(k, v)]
theorem q1w {p : κ × V} {r : List (κ × V)} {k : κ} (e : p.1 = k) : valV (p :: r) k = some p.2 := by simp [valV, List.find?_cons, e]
theorem q1x {p : κ × V} {r : List (κ × V)} {k : κ} (e : ¬ p.1 = k) : valV (p :: r) k = valV r k := by simp [valV, List.find?_cons, e]
theorem q38 (k : κ) : ∀ kvs : List (κ × V), (kvs.any fun kv => decide (kv.1 = k)) = (valV kvs k).isSome
 | [] => rfl
 | p :: r => by
  rw [List.any_cons]
  by_cases e : p.1 = k
  ·simp only [q1w e, decide_eq_true e, Bool.true_or, Option.isSome_some]
  ·rw [q1x e, decide_eq_false e, Bool.false_or]; exact q38 k r
theorem q8u (k j : κ) (y : V) : ∀ kvs : List (κ × V), valV (kvs.map fun kv => if kv.1 = k then (kv.1, y) else kv) j = (valV kvs j).map fun x => if j = k then y else x
 | [] => rfl
 | p :: r => by
  have ih := q8u k j y r
  rw [List.map_cons]
  by_cases h : p.1 = k
  ·rw [if_pos h]
   by_cases e : p.1 = j
   ·rw [q1w (p := (p.1, y)) e, q1w e, Option.map_some, if_pos (e.symm.trans h)]
   ·rw [q1x (p := (p.1, y)) e, q1x e, ih]
  ·rw [if_neg h]
   by_cases e : p.1 = j
   ·rw [q1w (p := p) e, q1w e, Option.map_some, if_neg (fun z => h (e.trans z))]
   ·rw [q1x (p := p) e, q1x e, ih]
theorem q7j (k j : κ) (y : V) : ∀ kvs : List (κ × V), valV kvs k = none → valV (kvs ++ [(k, y)]) j = if j = k then some y else valV kvs j
 | [], _ => by
  by_cases e : k = j
  ·rw [if_pos e.symm]; exact q1w (p := (k, y)) e
  ·rw [if_neg (fun z => e z.symm)]; exact q1x (p := (k, y)) e
 | p :: r, hn => by
  rw [List.cons_append]
  have hk : ¬ p.1 = k := fun z => by rw [q1w z] at hn; cases hn
  rw [q1x hk] at hn
  have ih := q7j k j y r hn
  by_cases e : p.1 = j
  ·rw [q1w e, q1w e, if_neg (fun z => hk (e.trans z))]
  ·rw [q1x e, q1x e, ih]
theorem q1l (kvs : List (κ × V)) (k j : κ) (y : V) : valV (putK kvs k y) j = if j = k then some y else valV kvs j := by
 unfold putK
 by_cases a : (kvs.any fun kv => decide (kv.1 = k)) = true
 ·rw [if_pos a, q8u]
  rw [q38] at a
  by_cases e : j = k
  ·obtain ⟨x, hx⟩ := Option.isSome_iff_exists.mp a
   rw [if_pos e, e, hx, Option.map_some, if_pos rfl]
  ·rw [if_neg e]
   cases valV kvs j with
   | none => rfl
   | some x => rw [Option.map_some, if_neg e]
 ·rw [if_neg a]
  refine q7j k j y kvs ?_
  rw [q38] at a
  cases q : valV kvs k with
  | none => rfl
  | some x => rw [q] at a; exact (a rfl).elim
theorem q0t (kvs : List (κ × V)) (k : κ) (v : V) : (putK kvs k v).length ≤ kvs.length + 1 := by
 unfold putK
 split
 ·rw [List.length_map]; omega
 ·rw [List.length_append, List.length_cons, List.length_nil]; omega
theorem q9p {kvs : List (κ × V)} {k : κ} (v : V) (h : valV kvs k = none) : putK kvs k v = kvs ++ [(k, v)] := by
 unfold putK
 rw [q38, h]
 exact if_neg (by decide)
theorem RelO.isSome_eq {o : Option V} {u : Option Value} (r : RelO o u) : o.isSome = u.isSome := by
 cases o with
 | none => cases u with
  | none => rfl
  | some _ => exact (show False from r).elim
 | some _ => cases u with
  | none => exact (show False from r).elim
  | some _ => rfl
theorem RelO.getD {o : Option V} {u : Option Value} {d : V} {d' : Value} (r : RelO o u) (rd : RelV d d') : RelV (o.getD d) (u.getD d') := by
 cases o with
 | none => cases u with
  | none => exact rd
  | some _ => exact (show False from r).elim
 | some _ => cases u with
  | none => exact (show False from r).elim
  | some _ => exact r
theorem KV.val {kvs : List (κ × V)} {vs : List (κ × Value)} (r : KV kvs vs) (k : κ) : RelO (valV kvs k) (valueAt vs k) := by
 unfold KV at r
 induction r with
 | nil => exact True.intro
 | @cons p q ps qs h t ih =>
  obtain ⟨h1, h2⟩ := h
  by_cases e : p.1 = k
  ·have e' : q.1 = k := h1.symm.trans e
   have b : valueAt (q :: qs) k = some q.2 := by simp [valueAt, List.find?_cons, e']
   rw [q1w e, b]; exact h2
  ·have e' : ¬ q.1 = k := fun z => e (h1.trans z)
   have b : valueAt (q :: qs) k = valueAt qs k := by simp [valueAt, List.find?_cons, e']
   rw [q1x e, b]; exact ih
theorem KV.any {kvs : List (κ × V)} {vs : List (κ × Value)} (r : KV kvs vs) (k : κ) : (kvs.any fun kv => decide (kv.1 = k)) = vs.any fun kv => decide (kv.1 = k) := by
 unfold KV at r
 induction r with
 | nil => rfl
 | cons h t ih => rw [List.any_cons, List.any_cons, ih, h.1]
theorem KV.repl {kvs : List (κ × V)} {vs : List (κ × Value)} (r : KV kvs vs) (k : κ) {y : V} {u : Value} (ry : RelV y u) :
  KV (kvs.map fun kv => if kv.1 = k then (kv.1, y) else kv) (vs.map fun kv => if kv.1 = k then (kv.1, u) else kv) := by
 unfold KV at r ⊢
 induction r with
 | nil => exact .nil
 | @cons p q ps qs h t ih =>
  rw [List.map_cons, List.map_cons]
  refine .cons ?_ ih
  obtain ⟨h1, h2⟩ := h
  by_cases e : p.1 = k
  ·rw [if_pos e, if_pos (h1.symm.trans e)]; exact ⟨h1, ry⟩
  ·rw [if_neg e, if_neg (fun z => e (h1.trans z))]; exact ⟨h1, h2⟩
theorem KV.put {kvs : List (κ × V)} {vs : List (κ × Value)} (r : KV kvs vs) (k : κ) {y : V} {u : Value} (ry : RelV y u) : KV (putK kvs k y) (stored vs k u) := by
 unfold putK stored
 rw [r.any k]
 by_cases e : (vs.any fun kv => decide (kv.1 = k)) = true
 ·rw [if_pos e, if_pos e]; exact r.repl k ry
 ·rw [if_neg e, if_neg e]; exact Paired.snoc r ⟨rfl, ry⟩
theorem KV.length {kvs : List (κ × V)} {vs : List (κ × Value)} (r : KV kvs vs) : kvs.length = vs.length := Paired.length r
end
theorem q7p {P : Program} {w : World} {k : Key} {u : Value} (r : RelV (kV k) u) : (q11 P w).is k u = true := by
 cases k with
 | inl i => obtain ⟨t, e⟩ := (show ∃ t, u = Value.int i t from r); subst e; exact q8f P w i t
 | inr x => obtain ⟨t, e⟩ := (show ∃ t, u = Value.str x t from r); subst e; exact q87 P w x t
theorem q7s {P : Program} {w : World} : ∀ {ks : List Key} {us : List Value}, Vals (ks.map kV) us → ItemsAre (q11 P w) ks us
 | [], _, r => by rw [List.map_nil] at r; cases r; exact .nil
 | k :: ks, _, r => by
  rw [List.map_cons] at r
  cases r with
  | cons h t => exact .cons (q7p h) (q7s t)
abbrev KT (H : Hp) : List (List Key × V) → List (List Key × Addr × Value) → Prop := Paired fun p q => p.1 = q.1 ∧ H q.2.1 = some (.tup (p.1.map kV)) ∧ RelV p.2 q.2.2
theorem KT.val {H : Hp} {kvs : List (List Key × V)} {xs : List (List Key × Addr × Value)} (r : KT H kvs xs) (k : List Key) : RelO (valV kvs k) ((atKey xs k).map (·.2)) := by
 induction r with
 | nil => exact True.intro
 | @cons p q ps qs h t ih =>
  obtain ⟨h1, _, h2⟩ := h
  by_cases e : p.1 = k
  ·have e' : q.1 = k := h1.symm.trans e
   have b : atKey (q :: qs) k = some q.2 := by simp [atKey, List.find?_cons, e']
   rw [q1w e, b]; exact h2
  ·have e' : ¬ q.1 = k := fun z => e (h1.trans z)
   have b : atKey (q :: qs) k = atKey qs k := by simp [atKey, List.find?_cons, e']
   rw [q1x e, b]; exact ih
theorem KT.repl {H : Hp} {kvs : List (List Key × V)} {xs : List (List Key × Addr × Value)} (r : KT H kvs xs) (k : List Key) {y : V} {u : Value} (ry : RelV y u) :
  KT H (kvs.map fun kv => if kv.1 = k then (kv.1, y) else kv) (xs.map (putAt k u)) := by
 induction r with
 | nil => exact .nil
 | @cons p q ps qs h t ih =>
  rw [List.map_cons, List.map_cons]
  refine .cons ?_ ih
  obtain ⟨h1, h2, h3⟩ := h
  unfold putAt
  by_cases e : p.1 = k
  ·rw [if_pos e, if_pos (h1.symm.trans e)]; exact ⟨h1, h2, ry⟩
  ·rw [if_neg e, if_neg (fun z => e (h1.trans z))]; exact ⟨h1, h2, h3⟩
theorem KT.put {H : Hp} {kvs : List (List Key × V)} {xs : List (List Key × Addr × Value)} (r : KT H kvs xs) (k : List Key) {b : Addr} {y : V} {u : Value} (hb : H b = some (.tup (k.map kV))) (ry : RelV y u) :
  KT H (putK kvs k y) (storedH xs k b u) := by
 have e : (kvs.any fun kv => decide (kv.1 = k)) = (atKey xs k).isSome := by
  rw [q38, (r.val k).isSome_eq, Option.isSome_map]
 unfold putK storedH
 rw [e]
 by_cases q : (atKey xs k).isSome = true
 ·rw [if_pos q, if_pos q]; exact r.repl k ry
 ·rw [if_neg q, if_neg q]; exact Paired.snoc r ⟨rfl, hb, ry⟩
theorem KT.keeps {H H' : Hp} {kvs : List (List Key × V)} {xs : List (List Key × Addr × Value)} (r : KT H kvs xs) (ht : ∀ b ys, H b = some (.tup ys) → H' b = some (.tup ys)) : KT H' kvs xs :=
 Paired.mapP r fun _ _ z => ⟨z.1, ht _ _ z.2.1, z.2.2⟩
section
variable {P : Program} {w : World} {H : Hp} {h : Heap} {a : Addr}
theorem qiw {u : HO} (ok : HOk P w H h) (e : Rd H a u) : q1h P w H h a u := e.ok ok
theorem q6h {kvs : List (Key × V)} (ok : HOk P w H h) (e : Rd H a (.dK kvs)) : kvs.length ≤ sizeLine ∧ (a == sysModules) = false ∧ ∃ vs, KV kvs vs ∧ h.DictOf (q11 P w) a vs :=
 show q1h P w H h a (.dK kvs) from qiw ok e
theorem qiy {kvs : List (Key × V)} (ok : HOk P w H h) (e : H a = some (.dK kvs)) : kvs.length ≤ sizeLine ∧ (a == sysModules) = false ∧ ∃ vs, KV kvs vs ∧ h.DictOf (q11 P w) a vs := q6h ok (.inl e)
theorem q5b {ks : List Key} (ok : HOk P w H h) (e : H a = some (.tup (ks.map kV))) : (tupleKind (q11 P w)).is h ks a := by
 obtain ⟨_, its, r, o, h1, h2, n, h3⟩ := (show q1h P w H h a (.tup (ks.map kV)) from ok a _ e)
 exact ⟨o, its.toArray, n, h1, h2, h3, by simpa using q7s r⟩
theorem q7k {kvs : List (List Key × V)} (ok : HOk P w H h) (e : Rd H a (.dT kvs)) : kvs.length ≤ sizeLine ∧ (a == sysModules) = false ∧
  ∃ xs, KT H kvs xs ∧ h.DictOfH (tupleKind (q11 P w)) a xs := by
 obtain ⟨z, y, xs, r, o, es, ep, h1, h2, h3, h4, h5⟩ := (show q1h P w H h a (.dT kvs) from qiw ok e)
 refine ⟨z, y, xs, r, o, es, ep, h1, h2, h3, h4, fun x hx => ?_, h5⟩
 have all : ∀ {l : List (List Key × V)} {m : List (List Key × Addr × Value)}, KT H l m → ∀ x ∈ m, (tupleKind (q11 P w)).is h x.1 x.2.1 := by
  intro l m q
  induction q with
  | nil => intro x hx; exact nomatch hx
  | @cons p q ps qs hq t ih =>
   intro x hx
   rcases List.mem_cons.mp hx with e | hx
   ·subst e
    exact q5b ok (by rw [← hq.1]; exact hq.2.1)
   ·exact ih x hx
 exact all r x hx
theorem qkf {kvs : List (List Key × V)} (ok : HOk P w H h) (e : H a = some (.dT kvs)) : kvs.length ≤ sizeLine ∧ (a == sysModules) = false ∧
  ∃ xs, KT H kvs xs ∧ h.DictOfH (tupleKind (q11 P w)) a xs := q7k ok (.inl e)
end
def DGet (H : Hp) (a : Addr) (y : V) (r : Option V) : Prop :=
 (∃ kvs k, Rd H a (.dK kvs) ∧ y = kV k ∧ r = valV kvs k) ∨ ∃ kvs k b, Rd H a (.dT kvs) ∧ y = .ref b ∧ H b = some (.tup (k.map kV)) ∧ r = valV kvs k
def DPut (H : Hp) (a : Addr) (y v : V) (H' : Hp) : Prop :=
 (∃ kvs k, H a = some (.dK kvs) ∧ y = kV k ∧ kvs.length < sizeLine ∧ H' = upd H a (.dK (putK kvs k v))) ∨
 ∃ kvs k b, H a = some (.dT kvs) ∧ y = .ref b ∧ H b = some (.tup (k.map kV)) ∧ kvs.length < sizeLine ∧ H' = upd H a (.dT (putK kvs k v))
theorem DGet.k {H : Hp} {a : Addr} {kvs : List (Key × V)} {k : Key} (e : H a = some (.dK kvs)) : DGet H a (kV k) (valV kvs k) := .inl ⟨kvs, k, .inl e, rfl, rfl⟩
theorem DGet.t {H : Hp} {a b : Addr} {kvs : List (List Key × V)} {k : List Key} (e : H a = some (.dT kvs)) (eb : H b = some (.tup (k.map kV))) : DGet H a (.ref b) (valV kvs k) := .inr ⟨kvs, k, b, .inl e, rfl, eb, rfl⟩
theorem DPut.k {H : Hp} {a : Addr} {kvs : List (Key × V)} {k : Key} {v : V} (e : H a = some (.dK kvs)) (hl : kvs.length < sizeLine) : DPut H a (kV k) v (upd H a (.dK (putK kvs k v))) := .inl ⟨kvs, k, e, rfl, hl, rfl⟩
theorem DPut.t {H : Hp} {a b : Addr} {kvs : List (List Key × V)} {k : List Key} {v : V} (e : H a = some (.dT kvs)) (eb : H b = some (.tup (k.map kV))) (hl : kvs.length < sizeLine) :
  DPut H a (.ref b) v (upd H a (.dT (putK kvs k v))) := .inr ⟨kvs, k, b, e, rfl, eb, hl, rfl⟩
section
variable {X : Cx} {pins : List (Addr × Obj)} {σ : St} {H : Hp} {s : Shared} {a : Addr} {y v : V} {u r : Value} {o : Option V} {A : Around} {E : Value → Shared → Prop}
theorem Inv.big (I : Inv X pins σ H s) : sysModules < s.heap.objs.size := by
 have h : mainGlobals < s.heap.objs.size := (I.mod.glob.keeps I.bk).lt
 exact Nat.lt_trans (by decide) h
theorem qch {Q : Value → Shared → Prop} (hu : A.units + 1 < cLine) (I : Inv X pins σ H s) (g : DGet H a y (some v)) (ry : RelV y u) (h : ∀ w' s', Inv X pins σ H s' → RelV v w' → Q w' s') :
  wpAny (model X.prog X.w) A (getItem (.ref a) u) Q E s := by
 rcases g with ⟨kvs, k, e, ey, l⟩ | ⟨kvs, k, b, e, ey, eb, l⟩
 ·subst ey
  obtain ⟨z, hd, vs, rel, dd⟩ := q6h I.hok e
  obtain ⟨w', hw, rw'⟩ := RelO.some_of (v := v) (o := valueAt vs k) (by rw [l]; exact rel.val k)
  exact wpAny_getItem_of (q7p ry) dd.mapOf hw (h w' _ (I.tok _) rw')
 ·subst ey
  cases (show u = Value.ref b from ry)
  obtain ⟨z, hd, xs, rel, dd⟩ := q7k I.hok e
  obtain ⟨w', hw, rw'⟩ := RelO.some_of (v := v) (o := (atKey xs k).map (·.2)) (by rw [l]; exact rel.val k)
  obtain ⟨p, hp, hp2⟩ := Option.map_eq_some_iff.mp hw
  refine wpAny_getItem_heap (tupleKind_room_in1 hu) (q5b I.hok eb) dd hp ?_
  rw [hp2]
  exact h w' _ (I.tok _) rw'
theorem d_in {Q : Value → Shared → Prop} (hu : A.units + 1 < cLine) (I : Inv X pins σ H s) (g : DGet H a y o) (ry : RelV y u) (h : ∀ s', Inv X pins σ H s' → Q (.bool o.isSome) s') :
  wpAny (model X.prog X.w) A (compareOp .In u (.ref a)) Q E s := by
 rcases g with ⟨kvs, k, e, ey, l⟩ | ⟨kvs, k, b, e, ey, eb, l⟩
 ·subst ey
  obtain ⟨z, hd, vs, rel, dd⟩ := q6h I.hok e
  refine wpAny_in_of (q7p ry) hd dd.mapOf ?_
  rw [← (rel.val k).isSome_eq, ← l]
  exact h _ (I.tok _)
 ·subst ey
  cases (show u = Value.ref b from ry)
  obtain ⟨z, hd, xs, rel, dd⟩ := q7k I.hok e
  refine wpAny_in_heap (tupleKind_room_in1 hu) (q5b I.hok eb) hd dd ?_
  have q := (rel.val k).isSome_eq
  rw [Option.isSome_map] at q
  rw [← q, ← l]
  exact h _ (I.tok _)
theorem qhd {Q : Value → Shared → Prop} (hu : A.units + 1 < cLine) (I : Inv X pins σ H s) (g : DGet H a y o) (ry : RelV y u) (h : ∀ s', Inv X pins σ H s' → Q (.bool (!o.isSome)) s') :
  wpAny (model X.prog X.w) A (compareOp .NotIn u (.ref a)) Q E s := by
 rcases g with ⟨kvs, k, e, ey, l⟩ | ⟨kvs, k, b, e, ey, eb, l⟩
 ·subst ey
  obtain ⟨z, hd, vs, rel, dd⟩ := q6h I.hok e
  refine wpAny_notIn_of (q7p ry) hd dd.mapOf ?_
  rw [← (rel.val k).isSome_eq, ← l]
  exact h _ (I.tok _)
 ·subst ey
  cases (show u = Value.ref b from ry)
  obtain ⟨z, hd, xs, rel, dd⟩ := q7k I.hok e
  refine wpAny_notIn_heap (tupleKind_room_in1 hu) (q5b I.hok eb) hd dd ?_
  have q := (rel.val k).isSome_eq
  rw [Option.isSome_map] at q
  rw [← q, ← l]
  exact h _ (I.tok _)
theorem q8a {h' : Heap} {t' : Nat} {ob : HO} (I : Inv X pins σ H s) (mu : Mut (H a)) (hs : Heap.SameBut a s.heap h') (he : ∃ q, h'.get? a = some q) (new : q1h X.prog X.w (upd H a ob) h' a ob) :
  Inv X pins σ (upd H a ob) { s with heap := h', toks := t' } :=
 I.write (x := a) (e := a) mu (.inl rfl) (fun b q hb z => (hs.2 b hb).trans z) he new
theorem qbj {P : Program} {w : World} {H' : Hp} {h' : Heap} {kvs : List (Key × V)} {vs : List (Key × Value)} (z : kvs.length ≤ sizeLine) (hd : (a == sysModules) = false) (rel : KV kvs vs) (dd : h'.DictOf (q11 P w) a vs) :
  q1h P w H' h' a (.dK kvs) := ⟨z, hd, vs, rel, dd⟩
theorem qb6 {H' : Hp} {Q : Unit → Shared → Prop} (hu : A.units + 1 < cLine) (I : Inv X pins σ H s) (g : DPut H a y v H') (ry : RelV y u) (rv : RelV v r) (h : ∀ s', Inv X pins σ H' s' → Q () s') :
  wpAny (model X.prog X.w) A (setItem (.ref a) u r) Q E s := by
 rcases g with ⟨kvs, k, e, ey, l, eH⟩ | ⟨kvs, k, b, e, ey, eb, l, eH⟩
 ·subst ey eH
  obtain ⟨z, hd, vs, rel, dd⟩ := qiy I.hok e
  have hz : vs.length ≤ sizeLine := by rw [← rel.length]; exact z
  have hl : (putK kvs k v).length ≤ sizeLine := by have := q0t kvs k v; omega
  refine wpAny_setItem_pairs (hsz := hz) (q7p ry) dd fun h' dd' hs => h _ ?_
  have he : ∃ q, h'.get? a = some q := let ⟨q, _, _, hq, _⟩ := dd'; ⟨q, hq⟩
  exact q8a I (by rw [e]; exact True.intro) hs he (qbj hl hd (rel.put k rv) dd')
 ·subst ey eH
  cases (show u = Value.ref b from ry)
  obtain ⟨z, hd, xs, rel, dd⟩ := qkf I.hok e
  have hz : xs.length ≤ sizeLine := by rw [← Paired.length rel]; exact z
  have hl : (putK kvs k v).length ≤ sizeLine := by have := q0t kvs k v; omega
  refine wpAny_setItem_heap (hsz := hz) (tupleKind_room_in1 hu) (q5b I.hok eb) dd fun h' dd' hs => h _ ?_
  obtain ⟨q, es, ep, hq, h2, h3, h4, _, h5⟩ := dd'
  refine q8a I (by rw [e]; exact True.intro) hs ⟨q, hq⟩ ⟨hl, hd, _, (rel.put k eb rv).keeps fun c ys ec => ?_, q, es, ep, hq, h2, h3, h4, h5⟩
  rw [q08 (q3k ec e (fun z => nomatch z))]
  exact ec
end
section
variable {X : Cx} {pins : List (Addr × Obj)} {σ : St} {H : Hp} {s : Shared} {a : Addr} {kvs : List (Key × V)} {k : Key} {u : Value} {A : Around} {E : Value → Shared → Prop}
end
def NoSl (i : Expr) : Prop := ∀ ov iv, subscripted i false ov iv = operate [ov, iv] (getItem ov iv)
theorem qfw {prog : Program} {w : World} {A : Around} {E : Value → Shared → Prop} {s : Shared} {env : Env} {value slice : Expr} {pos : Pos} {T id : String} {Q : Value → Shared → Prop}
  (hl : typeLookup (.type T) "__getitem__" = pure (some (.builtin id))) (hs : NoSl slice)
  (h : wpAny (model prog w) A (eval value env) (fun o s₁ => wpAny (model prog w) A (eval slice env) (fun i s₂ => s₂.TypeIs o T ∧ wpAny (model prog w) A (getItem o i) Q E s₂) E s₁) E s) :
  wpAny (model prog w) A (eval (.Subscript value slice pos) env) Q E s := by
 refine Subscript_ (wpAny_mono h (fun o s₁ h₁ => wpAny_mono h₁ (fun i s₂ h₂ => ?_) fun _ _ x => x) fun _ _ x => x)
 obtain ⟨hT, h₂⟩ := h₂
 unfold subscriptTail
 refine wpAny_bind ?_
 rw [getitemInPython_of_ne hT.not_modules]
 refine wpAny_bind (wpAny_specialOf hT hl ?_)
 have fin : wpAny (model prog w) A (subscripted slice false o i) (fun r s₃ => wpAny (model prog w) A (letTemporaryGo value o r >>= fun _ => pure r) Q E s₃) E s₂ := by
  rw [hs o i]
  exact wpAny_operating (wpAny_mono h₂ (fun r s₃ h₃ => wpAny_bind (wpAny_letTemporaryGo (wpAny_pure h₃))) fun _ _ x => x)
 first
  | exact wpAny_pure (wpAny_bind fin)
  | exact wpAny_bind (wpAny_pure (wpAny_bind fin))
  | exact wpAny_bind fin
theorem q8p {X : Cx} {pins : List (Addr × Obj)} {σ : St} {H : Hp} {s : Shared} {a : Addr} {y : V} {o : Option V} (I : Inv X pins σ H s) (g : DGet H a y o) : s.TypeIs (.ref a) "dict" := by
 rcases g with ⟨kvs, k, e, _, _⟩ | ⟨kvs, k, b, e, _, _, _⟩
 ·obtain ⟨_, _, vs, _, dd⟩ := q6h I.hok e
  exact dd.typeIs
 ·obtain ⟨_, _, xs, _, dd⟩ := q7k I.hok e
  exact dd.typeIs
def qjg (td ty : TE) : TE := fun σ H Q => td σ H fun x H1 => ty σ H1 fun y H2 => ∃ a v, x = .ref a ∧ DGet H2 a y (some v) ∧ Q v H2
def tDIn (ty td : TE) : TE := fun σ H Q => ty σ H fun y H1 => td σ H1 fun x H2 => ∃ a o, x = .ref a ∧ DGet H2 a y o ∧ Q (.bl o.isSome) H2
def qh5 (ty td : TE) : TE := fun σ H Q => ty σ H fun y H1 => td σ H1 fun x H2 => ∃ a o, x = .ref a ∧ DGet H2 a y o ∧ Q (.bl (!o.isSome)) H2
def qhw (td ty tv : TE) : TS := fun D σ H => tv σ H fun v H1 => td σ H1 fun x H2 => ty σ H2 fun y H3 => ∃ a H4, x = .ref a ∧ DPut H3 a y v H4 ∧ D.nx σ H4
section
variable {X : Cx} {o i e value : Expr} {pos pos' tpos : Pos} {td ty tv : TE}
theorem q4b (hu : X.A.units + 1 < cLine) (ho : PE X o td) (hi : PE X i ty) (hs : NoSl i) : PE X (.Subscript o i pos) (qjg td ty) := by
 intro pins s σ H Q I h
 refine qfw PySem.F.slot_dict_getitem.lookup hs (thn (ho pins s σ H _ I h) fun u s1 ⟨x, H1, I1, rx, q1⟩ => thn (hi pins s1 σ H1 _ I1 q1) fun iv s2 ⟨y, H2, I2, ry, a, v, ex, g, q2⟩ => ?_)
 subst ex
 obtain rfl : u = Value.ref a := rx
 exact ⟨q8p I2 g, qch hu I2 g ry fun w' s3 I3 rw' => ⟨v, H2, I3, rw', q2⟩⟩
theorem qjs (hu : X.A.units + 1 < cLine) (hi : PE X i ty) (ho : PE X o td) : PC X .In i o (tDIn ty td) := by
 intro pins s σ H Q I h
 refine thn (hi pins s σ H _ I h) fun iv s1 ⟨y, H1, I1, ry, q1⟩ => thn (ho pins s1 σ H1 _ I1 q1) fun u s2 ⟨x, H2, I2, rx, a, ov, ex, g, q2⟩ => ?_
 subst ex
 obtain rfl : u = Value.ref a := rx
 exact d_in hu I2 g ry fun s3 I3 => ⟨.bl ov.isSome, H2, I3, rfl, q2⟩
theorem q54 (hu : X.A.units + 1 < cLine) (hi : PE X i ty) (ho : PE X o td) : PC X .NotIn i o (qh5 ty td) := by
 intro pins s σ H Q I h
 refine thn (hi pins s σ H _ I h) fun iv s1 ⟨y, H1, I1, ry, q1⟩ => thn (ho pins s1 σ H1 _ I1 q1) fun u s2 ⟨x, H2, I2, rx, a, ov, ex, g, q2⟩ => ?_
 subst ex
 obtain rfl : u = Value.ref a := rx
 exact qhd hu I2 g ry fun s3 I3 => ⟨.bl (!ov.isSome), H2, I3, rfl, q2⟩
theorem q28 (hu : X.A.units + 1 < cLine) (ho : PE X o td) (hi : PE X i ty) (hv : PE X value tv) (hs : swapsWith value (some (.Subscript o i pos')) pos.line X.env = pure false) :
  PS X (.Assign [.Subscript o i pos'] value pos) (qhw td ty tv) := by
 intro pins s σ H D I h
 refine wpAny_Assign_Subscript (thn (hv pins s σ H _ I h) fun r s1 ⟨v, H1, I1, rv, q1⟩ => thn (ho pins s1 σ H1 _ I1 q1) fun u s2 ⟨x, H2, I2, rx, q2⟩ => thn (hi pins s2 σ H2 _ I2 q2) fun iv s3 ⟨y, H3, I3, ry, a, H4, ex, g, q3⟩ => ?_) hs
 subst ex
 obtain rfl : u = Value.ref a := rx
 exact qb6 hu I3 g ry rv fun s4 I4 => ⟨σ, H4, I4, q3⟩
end
theorem q95 {P : Program} {w : World} {H : Hp} (h : Heap) (hb : sysModules < h.objs.size) : q1h P w H (h.push { cls := .type "dict", data := .dict #[] }) h.objs.size (.dK []) :=
 ⟨Nat.zero_le _, beq_eq_false_iff_ne.mpr (Ne.symm (Nat.ne_of_lt hb)), [], .nil, Heap.DictOf.new h⟩
theorem qe2 {P : Program} {w : World} {H : Hp} (h : Heap) (hb : sysModules < h.objs.size) : q1h P w H (h.push { cls := .type "dict", data := .dict #[] }) h.objs.size (.dT []) :=
 ⟨Nat.zero_le _, beq_eq_false_iff_ne.mpr (Ne.symm (Nat.ne_of_lt hb)), [], .nil, _, #[], 0, Heap.get?_push_size _ rfl, ⟨rfl, rfl, rfl⟩, rfl, rfl, List.nodup_nil⟩
def qih : TE := fun _ H Q => ∀ p, H p = none → Q (.ref p) (upd H p (.dK []))
def qj2 : TE := fun _ H Q => ∀ p, H p = none → Q (.ref p) (upd H p (.dT []))
section
variable {X : Cx} {pos : Pos}
theorem q3y : PE X (.Dict [] [] pos) qih := fun pins s σ H Q I h =>
 wpAny_Dict_empty ⟨.ref s.heap.objs.size, _, I.laid (a := s.heap.objs.size) (o := .dK []) (t' := s.toks) (fun _ _ q => Heap.get?_push_of_some _ q) (Nat.le_refl _) (q95 s.heap I.big), rfl, h _ (I.hok.fresh (Nat.le_refl _))⟩
theorem qeh : PE X (.Dict [] [] pos) qj2 := fun pins s σ H Q I h =>
 wpAny_Dict_empty ⟨.ref s.heap.objs.size, _, I.laid (a := s.heap.objs.size) (o := .dT []) (t' := s.toks) (fun _ _ q => Heap.get?_push_of_some _ q) (Nat.le_refl _) (qe2 s.heap I.big), rfl, h _ (I.hok.fresh (Nat.le_refl _))⟩
end
def qcc : List (TE × TE) → St → Hp → (List (V × V) → Hp → Prop) → Prop
 | [], _, H, Q => Q [] H
 | (tk, tv) :: r, σ, H, Q => tk σ H fun x H1 => tv σ H1 fun y H2 => qcc r σ H2 fun ps H3 => Q ((x, y) :: ps) H3
abbrev VV : List (V × V) → List (Value × Value) → Prop := Paired fun p q => RelV p.1 q.1 ∧ RelV p.2 q.2
def PPs (X : Cx) (pos : Pos) (keys : List (Option Expr)) (values : List Expr) (trs : List (TE × TE)) : Prop :=
 ∀ (pins : List (Addr × Obj)) (s : Shared) (σ : St) (H : Hp) (Q : List (V × V) → Hp → Prop), Inv X pins σ H s → qcc trs σ H Q →
  wpAny (model X.prog X.w) X.A (evalPairs (pairTrees keys values X.env pos)) (fun vs s' => ∃ ps H', Inv X pins σ H' s' ∧ VV ps vs ∧ Q ps H') X.xe s
theorem qhs {X : Cx} {pos : Pos} : PPs X pos [] [] [] := fun pins s σ H Q I h => pairTrees_nil_walk ⟨[], H, I, .nil, h⟩
theorem qdn {X : Cx} {pos : Pos} {k v : Expr} {ks : List (Option Expr)} {vs : List Expr} {tk tv : TE} {trs : List (TE × TE)} (hk : PE X k tk) (hv : PE X v tv) (hr : PPs X pos ks vs trs) :
  PPs X pos (some k :: ks) (v :: vs) ((tk, tv) :: trs) := fun pins s σ H Q I h =>
 pairTrees_cons_walk (thn (hk pins s σ H _ I h) fun u s1 ⟨x, H1, I1, rx, q1⟩ => thn (hv pins s1 σ H1 _ I1 q1) fun w2 s2 ⟨y, H2, I2, ry, q2⟩ =>
  thn (hr pins s2 σ H2 _ I2 q2) fun ws s3 ⟨ps, H3, I3, rel, q3⟩ => ⟨(x, y) :: ps, H3, I3, .cons ⟨rx, ry⟩ rel, q3⟩)
def q6x (kvs more : List (Key × V)) : List (Key × V) := more.foldl (fun acc kv => putK acc kv.1 kv.2) kvs
theorem KV.merge : ∀ {more : List (Key × V)} {rs : List (Key × Value)} {kvs : List (Key × V)} {vs : List (Key × Value)}, KV more rs → KV kvs vs → KV (q6x kvs more) (merged vs rs) := by
 intro more rs kvs vs r
 unfold KV at r
 induction r generalizing kvs vs with
 | nil => intro q; exact q
 | @cons p q ps qs h t ih =>
  intro r0
  have e : KV (putK kvs p.1 p.2) (stored vs q.1 q.2) := by
   have := r0.put p.1 h.2
   rw [← h.1]; exact this
  exact ih e
theorem q3v : ∀ (more kvs : List (Key × V)), (q6x kvs more).length ≤ kvs.length + more.length
 | [], kvs => by show kvs.length ≤ kvs.length + 0; omega
 | p :: r, kvs => by
  have h1 := q3v r (putK kvs p.1 p.2)
  have h2 := q0t kvs p.1 p.2
  show (q6x (putK kvs p.1 p.2) r).length ≤ _
  rw [List.length_cons]; omega
theorem q5z {P : Program} {w : World} : ∀ {kvs : List (Key × V)} {ws : List (Value × Value)}, VV (kvs.map fun kv => (kV kv.1, kv.2)) ws → ∃ rs, Carries (q11 P w) ws rs ∧ KV kvs rs
 | [], _, r => by rw [List.map_nil] at r; cases r; exact ⟨[], True.intro, .nil⟩
 | p :: kvs, _, r => by
  rw [List.map_cons] at r
  cases r with
  | @cons a b as bs h t =>
   obtain ⟨rs, c, q⟩ := q5z (P := P) (w := w) t
   obtain ⟨b1, b2⟩ := b
   exact ⟨(p.1, b2) :: rs, ⟨q7p h.1, rfl, c⟩, .cons ⟨rfl, h.2⟩ q⟩
def qkc (trs : List (TE × TE)) : TE := fun σ H Q => ∀ p, H p = none → qcc trs σ (upd H p (.dK [])) fun ps H2 => H2 p = some (.dK []) ∧ ∃ kvs : List (Key × V), ps = kvs.map (fun kv => (kV kv.1, kv.2)) ∧ kvs.length ≤ 15 ∧ Q (.ref p) (upd H2 p (.dK (q6x [] kvs)))
theorem qgl {X : Cx} {pos : Pos} {keys : List (Option Expr)} {values : List Expr} {trs : List (TE × TE)} (h : PPs X pos keys values trs) (hall : keys.all (·.isSome) = true) (hl : keys.length = values.length) (h0 : keys ≠ [])
  (h15 : keys.length ≤ 15) : PE X (.Dict keys values pos) (qkc trs) := by
 intro pins s σ H Q I q
 have hn := I.hok.fresh (Nat.le_refl s.heap.objs.size)
 have I1 := I.laid (a := s.heap.objs.size) (o := .dK []) (h' := s.heap.push { cls := .type "dict", data := .dict #[] }) (t' := s.toks) (fun _ _ q => Heap.get?_push_of_some _ q) (Nat.le_refl _) (q95 s.heap I.big)
 refine wpAny_Dict_walk (knd := q11 X.prog X.w) hall hl h0 h15 (thn (h pins _ σ _ _ I1 (q _ hn)) fun ws s2 ⟨ps, H2, I2, rel, e, kvs, ep, lk, q2⟩ => ?_)
 subst ep
 obtain ⟨rs, c, rk⟩ := q5z (P := X.prog) (w := X.w) rel
 obtain ⟨z, hd, vs0, r0, dd⟩ := qiy I2.hok e
 cases r0
 refine ⟨rs, c, dd, fun h' dd' hs => ⟨.ref s.heap.objs.size, _, ?_, rfl, q2⟩⟩
 have hz : (q6x [] kvs).length ≤ sizeLine := by
  have h1 := q3v kvs []
  rw [List.length_nil] at h1
  rw [sizeLine_eq]; omega
 have he : ∃ q, h'.get? s.heap.objs.size = some q := let ⟨q, _, _, hq, _⟩ := dd'; ⟨q, hq⟩
 exact q8a I2 (by rw [e]; exact True.intro) hs he (qbj hz hd (rk.merge .nil) dd')
structure M1 (X : Cx) (o : Expr) (m : Str) (apos : Pos) (e : Expr) (cpos : Pos) : Prop where
 base : attributeBase o m X.env (eval o X.env) = eval o X.env
 few : ((backTo cpos (starEach [e] X.env)).all (fun x => !x.1) && (backToKw cpos (keywordEach [] X.env)).all (fun x => x.1.isSome)
  && decide (([e] : List Expr).length + ([] : List Keyword).length + (if ([] : List Keyword).isEmpty then 0 else 1) < 30)) = true
 line : (apos.endLine == cpos.line) = true
 trees : backTo cpos (starEach [e] X.env) = [(false, eval e X.env)]
structure M2 (X : Cx) (o : Expr) (m : Str) (apos : Pos) (e f : Expr) (cpos : Pos) : Prop where
 base : attributeBase o m X.env (eval o X.env) = eval o X.env
 few : ((backTo cpos (starEach [e, f] X.env)).all (fun x => !x.1) && (backToKw cpos (keywordEach [] X.env)).all (fun x => x.1.isSome)
  && decide (([e, f] : List Expr).length + ([] : List Keyword).length + (if ([] : List Keyword).isEmpty then 0 else 1) < 30)) = true
 line : (apos.endLine == cpos.line) = true
 trees : backTo cpos (starEach [e, f] X.env) = [(false, eval e X.env), (false, eval f X.env)]
def IsD (H : Hp) (a : Addr) : Prop := (∃ kvs, Rd H a (.dK kvs)) ∨ ∃ kvs, Rd H a (.dT kvs)
theorem qfg {X : Cx} {pins : List (Addr × Obj)} {σ : St} {H : Hp} {s : Shared} {a : Addr} (I : Inv X pins σ H s) (d : IsD H a) :
  s.TypeIs (.ref a) "dict" ∧ (∀ b, Value.ref a = .ref b → ∃ ob, s.heap.get? b = some ob ∧ ob.dict = none) ∧ (a == sysModules) = false := by
 rcases d with ⟨kvs, e⟩ | ⟨kvs, e⟩
 ·obtain ⟨_, hd, vs, _, dd⟩ := q6h I.hok e
  refine ⟨dd.typeIs, fun b q => ?_, hd⟩
  cases q
  obtain ⟨ob, _, _, h1, h2, _⟩ := dd
  exact ⟨ob, h1, h2.2.1⟩
 ·obtain ⟨_, hd, xs, _, dd⟩ := q7k I.hok e
  refine ⟨dd.typeIs, fun b q => ?_, hd⟩
  cases q
  obtain ⟨ob, _, _, h1, h2, _⟩ := dd
  exact ⟨ob, h1, h2.2.1⟩
section
variable {X : Cx} {pins : List (Addr × Obj)} {σ : St} {H : Hp} {s : Shared} {a : Addr} {y d : V} {u r : Value} {o : Option V} {A : Around} {E : Value → Shared → Prop}
theorem qjc {Q : Value → Shared → Prop} (hu : A.units + 1 < cLine) (I : Inv X pins σ H s) (g : DGet H a y o) (ry : RelV y u) (h : ∀ w' s', Inv X pins σ H s' → RelV (o.getD .non) w' → Q w' s') :
  wpAny (model X.prog X.w) A (call (.builtin "dict.get") [.ref a, u]) Q E s := by
 rcases g with ⟨kvs, k, e, ey, l⟩ | ⟨kvs, k, b, e, ey, eb, l⟩
 ·subst ey
  obtain ⟨z, hd, vs, rel, dd⟩ := q6h I.hok e
  refine call_meetsIn PySem.F.slot_dict_get dd.typeIs PySem.F.entry_dict_get (PySem.F.args_dict_get_2 _ _) (meets_dict_get (q11 X.prog X.w) a (q7p ry) hd) ⟨_, dd.mapOf, h _ _ (I.tok _) ?_⟩
  rw [l]
  exact (rel.val k).getD rfl
 ·subst ey
  cases (show u = Value.ref b from ry)
  obtain ⟨z, hd, xs, rel, dd⟩ := q7k I.hok e
  refine call_meetsIn PySem.F.slot_dict_get dd.typeIs PySem.F.entry_dict_get (PySem.F.args_dict_get_2 _ _) (meetsH_dict_get (tupleKind (q11 X.prog X.w)) a b hd) ⟨tupleKind_room_in1 hu, k, xs, q5b I.hok eb, dd, h _ _ (I.tok _) ?_⟩
  rw [l]
  exact (rel.val k).getD rfl
theorem qip {Q : Value → Shared → Prop} (hu : A.units + 1 < cLine) (I : Inv X pins σ H s) (g : DGet H a y o) (ry : RelV y u) (rd : RelV d r) (h : ∀ w' s', Inv X pins σ H s' → RelV (o.getD d) w' → Q w' s') :
  wpAny (model X.prog X.w) A (call (.builtin "dict.get") [.ref a, u, r]) Q E s := by
 rcases g with ⟨kvs, k, e, ey, l⟩ | ⟨kvs, k, b, e, ey, eb, l⟩
 ·subst ey
  obtain ⟨z, hd, vs, rel, dd⟩ := q6h I.hok e
  refine call_meetsIn PySem.F.slot_dict_get dd.typeIs PySem.F.entry_dict_get (PySem.F.args_dict_get_3 _ _ _) (meets_dict_get_default (q11 X.prog X.w) a (q7p ry) hd r) ⟨_, dd.mapOf, h _ _ (I.tok _) ?_⟩
  rw [l]
  exact (rel.val k).getD rd
 ·subst ey
  cases (show u = Value.ref b from ry)
  obtain ⟨z, hd, xs, rel, dd⟩ := q7k I.hok e
  refine call_meetsIn PySem.F.slot_dict_get dd.typeIs PySem.F.entry_dict_get (PySem.F.args_dict_get_3 _ _ _) (meetsH_dict_get_default (tupleKind (q11 X.prog X.w)) a b hd r) ⟨tupleKind_room_in1 hu, k, xs, q5b I.hok eb, dd, h _ _ (I.tok _) ?_⟩
  rw [l]
  exact (rel.val k).getD rd
end
def qir (td ty : TE) : TE := fun σ H Q => td σ H fun x H1 => ∃ a, x = .ref a ∧ IsD H1 a ∧ ty σ H1 fun y H2 => ∃ o, DGet H2 a y o ∧ Q (o.getD .non) H2
def qja (td ty tx : TE) : TE := fun σ H Q => td σ H fun x H1 => ∃ a, x = .ref a ∧ IsD H1 a ∧ ty σ H1 fun y H2 => tx σ H2 fun z H3 => ∃ o, DGet H3 a y o ∧ Q (o.getD z) H3
section
variable {X : Cx} {o e f : Expr} {apos cpos : Pos} {td ty tx : TE}
theorem qdq (hu : X.A.units + 1 < cLine) (ho : PE X o td) (he : PE X e ty) (m : M1 X o "get" apos e cpos) : PE X (.Call (.Attribute o "get" apos) [e] [] cpos) (qir td ty) := by
 intro pins s σ H Q I h
 refine wpAny_Call_method m.base m.few m.line PySem.F.plainAttrs_dict PySem.F.slot_dict_get PySem.F.type_dict_get (thn (ho pins s σ H _ I h) fun u s1 ⟨x, H1, I1, rx, a, ex, d, q1⟩ => ?_)
 subst ex
 obtain rfl : u = Value.ref a := rx
 obtain ⟨t1, t2, _⟩ := qfg I1 d
 refine ⟨t1, t2, ?_⟩
 rw [m.trees]
 refine Calls.callWith_builtin rfl (Calls.evalArgs_plain (Calls.spliced_cons (thn (he pins s1 σ H1 _ I1 q1) fun iv s2 ⟨y, H2, I2, ry, ov, g, q2⟩ => Calls.spliced_nil ?_)))
 exact qjc hu I2 g ry fun w' s3 I3 rw' => ⟨_, H2, I3, rw', q2⟩
theorem q9i (hu : X.A.units + 1 < cLine) (ho : PE X o td) (he : PE X e ty) (hf : PE X f tx) (m : M2 X o "get" apos e f cpos) : PE X (.Call (.Attribute o "get" apos) [e, f] [] cpos) (qja td ty tx) := by
 intro pins s σ H Q I h
 refine wpAny_Call_method m.base m.few m.line PySem.F.plainAttrs_dict PySem.F.slot_dict_get PySem.F.type_dict_get (thn (ho pins s σ H _ I h) fun u s1 ⟨x, H1, I1, rx, a, ex, d, q1⟩ => ?_)
 subst ex
 obtain rfl : u = Value.ref a := rx
 obtain ⟨t1, t2, _⟩ := qfg I1 d
 refine ⟨t1, t2, ?_⟩
 rw [m.trees]
 refine Calls.callWith_builtin rfl (Calls.evalArgs_plain (Calls.spliced_cons (thn (he pins s1 σ H1 _ I1 q1) fun iv s2 ⟨y, H2, I2, ry, q2⟩ =>
  Calls.spliced_cons (thn (hf pins s2 σ H2 _ I2 q2) fun fv s3 ⟨z, H3, I3, rz, ov, g, q3⟩ => Calls.spliced_nil ?_))))
 exact qip hu I3 g ry rz fun w' s4 I4 rw' => ⟨_, H3, I4, rw', q3⟩
end
section
variable {X : Cx} {pins : List (Addr × Obj)} {σ : St} {H : Hp} {s : Shared} {a : Addr} {kvs : List (Key × V)} {A : Around} {E : Value → Shared → Prop}
theorem qeq {Q : Value → Shared → Prop} (I : Inv X pins σ H s) (e : Rd H a (.dK kvs)) (h : ∀ p s', H p = none → Inv X pins σ (upd H p (.dK kvs)) s' → Q (.ref p) s') : wpAny (model X.prog X.w) A (call (.type "dict") [.ref a]) Q E s := by
 obtain ⟨z, hd, vs, rel, dd⟩ := q6h I.hok e
 refine kt_call_dict hd dd (by rw [← rel.length]; exact z) fun h' dd' hs => ?_
 refine h _ _ (I.hok.fresh (Nat.le_refl _)) (I.laid (a := s.heap.objs.size) (o := .dK kvs) (t' := s.toks) (fun b q hq => ?_) (Nat.le_refl _) (qbj z (beq_eq_false_iff_ne.mpr (Ne.symm (Nat.ne_of_lt I.big))) rel dd'))
 exact (hs.2 b (Nat.ne_of_lt (Heap.lt_size hq))).trans (Heap.get?_push_of_some _ hq)
end
section
variable {X : Cx} {pins : List (Addr × Obj)} {σ : St} {H : Hp} {s : Shared} {a : Addr} {y : V} {u : Value} {A : Around} {E : Value → Shared → Prop}
end
end L2
namespace Att
open PySem PySem.W PySem.Calls PyProof.Rows
theorem q5a {P : Params} {h : Heap} : ∀ (ns : List Int) (vs : List Value), WellAll P h vs (ns.map WData.int) → IntsAre vs ns := by
 intro ns
 induction ns with
 | nil =>
  intro vs w
  rw [List.map_nil] at w
  cases w
  exact .nil
 | cons n ns ih =>
  intro vs w
  rw [List.map_cons] at w
  cases w with
  | cons a b =>
   cases a
   exact .cons _ _ (ih _ b)
theorem qd3 {l : OpenLaw} {n : Nat} (hn : l.most = some n) {P : Params} {h : Heap} {args : List WData} {vals : List Value}
  (hpre : l.row.toRowW.claim.pre args = true) (hwl : WellAll P h vals args) :
  ∃ a vs ns, vals = [Value.ref a] ∧ args = [WData.list (ns.map WData.int)] ∧ h.get? a = some { cls := .type "list", data := .seq vs.toArray } ∧ IntsAre vs ns ∧ ns.length ≤ n := by
 have hsh : WShape.hasAll [] args [.list .int] = true := (pre_splitW hpre).1
 have hc : l.pre.holds [] { args := args } = true := (pre_splitW hpre).2
 obtain ⟨d, r, rfl, h1, h2⟩ := hasAllW_cons hsh
 obtain rfl := hasAllW_nil h2
 obtain ⟨xs, rfl, h3⟩ := hasW_list h1
 obtain ⟨ns, rfl⟩ := items_int h3
 have hlen : ns.length ≤ n := by
  unfold OpenLaw.pre at hc
  have h4 : (WTm.not (.lt (.lit (.int (n : Int))) (.len (.arg 0)))).holds [] { args := [.list (ns.map .int)] } = true := by
   have h4 := (holds_andW hc).1
   rw [hn] at h4
   exact h4
  have h5 := condW_of h4 (w_not (w_lt w_lit (w_len_list (w_arg rfl))))
  rw [List.length_map] at h5
  refine Nat.le_of_not_lt fun q => ?_
  have q' : (n : Int) < ((ns.length : Nat) : Int) := by omega
  first
   | (rw [decide_eq_true q'] at h5; exact absurd h5 (by decide))
   | (simp at h5; omega)
 cases hwl with
 | cons w1 w2 =>
  cases w2
  cases w1 with
  | list ho hall => exact ⟨_, _, ns, rfl, rfl, ho, q5a ns _ hall, hlen⟩
theorem qck (l : OpenLaw) (args : List WData) : l.row.toRowW.claim.post args (.bool true) args = true :=
 postW_of (r := l.row.toRowW) (X := (true == true))
  (show WShape.has [] (.bool true) .bool = true by first | rfl | decide | simp [WShape.has, WShape.arms, WShape.armsAll])
  (show (WTm.eq .res (.lit (.bool true))).value [] { args := args, res := some (.bool true), after := args } = some (.bool (true == true)) from w_eq_bool (w_res rfl) w_lit) rfl
theorem attach_call {l : OpenLaw} {n : Nat} {q : Program} {loose : List Str} {XP : (Str → Option Value) → Heap → Prop} {YP : World → Heap → Prop} {d : DefRec}
  (hn : l.most = some n) (hdf : d.params.defaults = [])
  (call : ∀ (w : World) (s₀ s₁ : Shared) (mg mb : Str → Option Value) (fa : Addr) (o : Obj) (pm cd doc : Value) (a : Addr) (vs : List Value) (ns : List Int),
   Ground q loose [] XP w s₀ mg mb s₁.heap → YP w s₁.heap →
   s₁.heap.get? fa = some o → o.data = .func (docDef d.name d.params d.body d.scope pm cd doc) → s₁.heap.CodeRec cd d.name → mg d.name = some (.ref fa) →
   s₁.heap.get? a = some { cls := .type "list", data := .seq vs.toArray } → IntsAre vs ns → ns.length ≤ n → s₁.gens = #[] →
   codeAny (model l.prog w) callerA (.call (.ref fa) ⟨[.ref a], []⟩) (fun r s' => r = .ok (.ret (.bool true)) ∧ OldK s₁.heap s'.heap ∧ s'.os = s₁.os ∧ AllBare s'.gens) s₁) :
  WalkO q loose XP YP l.row.toRowW d [] (fun f vs => PySem.call f vs) := by
 intro w s₀ s₁ mg mb G Y fa o pm cd doc dV kV ho hd hcd hD hmg hg args vals as hpre hlay hrd hwl hlo
 obtain rfl : dV = .none := Dflts.none hD hdf
 obtain rfl : kV = .none := Dflts.noKw hD
 obtain ⟨a, vs, ns, rfl, rfl, hobj, hints, hlen⟩ := qd3 hn hpre hwl
 refine enter_call (codeAny_mono (call w s₀ s₁ mg mb fa o pm cd doc a vs ns G Y ho (fd_plain hd) hcd hmg hobj hints hlen hg) fun r s' hq => ?_)
 obtain ⟨rfl, h2, h3, h4⟩ := hq
 exact ⟨.inl ⟨.bool true, .bool true, [], rfl, fun _ => rfl, .bool true, qck l _, fun _ => ⟨List.Pairwise.nil, fun _ hm => (nomatch hm)⟩⟩, h2, h3, h4⟩
section
variable {prog : Program} {w : World} {A : Around} {E : Value → Shared → Prop} {s : Shared} {K : Frag}
end
end Att
namespace L2
open PySem PySem.Spec PyProof.Rows
theorem q80 : ∀ {vs : List Value} {ns : List Int}, IntsAre vs ns → Vals (ns.map V.int) vs
 | _, _, .nil => .nil
 | _, _, .cons n t h => .cons ⟨t, rfl⟩ (q80 h)
def Only (H : Hp) : Prop := ∀ b, H b = none ∨ ∃ o xs, H b = some (.frz o (.lst xs))
theorem qem {P : Program} {w : World} {K : PySem.W.Frag} {mg mb : Str → Option Value} {CX : CXT} {k : Nat} {fa a : Addr} {fd : FuncData} {x : Str} {sp : Sp} {s₁ : Shared} {vs : List Value} {ns : List Int}
  (KX : K.In s₁.heap) (hns : s₁.heap.Ns mainGlobals mg) (hb : s₁.heap.Ns builtinsNs mb) (hbb : ∀ x : Str, x ≠ "__name__" → mb x = bootBuiltins x) (hlim : s₁.heap.NoLimit) (hg : s₁.gens = #[])
  (ha : s₁.heap.get? a = some { cls := .type "list", data := .seq vs.toArray }) (hi : IntsAre vs ns) (hl : ns.length ≤ sizeLine) (hr : Room k callerA)
  (F : ∀ base : Heap, K.In base → base.Ns mainGlobals mg → FnOk P w K mg base CX k fa fd [x] sp) (hbind : ∀ (s : Shared) (u : Value), BindsTo s fd ⟨[u], []⟩ [(x, u)])
  (hsp : ∀ H : Hp, Only H → SqL K H a (ns.map V.int) → sp [.ref a] H (fun v _ => v = .bl true) fun _ _ _ => False)
  (hCX : ∀ H e s', CX [] H s₁ (fun _ _ _ => False) e s' → False) :
  codeAny (model P w) callerA (.call (.ref fa) ⟨[.ref a], []⟩) (fun r s' => r = .ok (.ret (.bool true)) ∧ OldK s₁.heap s'.heap ∧ s'.os = s₁.os ∧ AllBare s'.gens) s₁ := by
 have rv := q80 hi
 have lenV := hi.length
 have core : ∀ H : Hp, Only H → SqL K H a (ns.map V.int) → HOk P w H s₁.heap → (∀ b, H b ≠ none → b = a) → (H a ≠ none → K.lookup a = none) →
   codeAny (model P w) callerA (.call (.ref fa) ⟨[.ref a], []⟩) (fun r s' => r = .ok (.ret (.bool true)) ∧ OldK s₁.heap s'.heap ∧ s'.os = s₁.os ∧ AllBare s'.gens) s₁ := by
  intro H hO hS hok hA hK
  have base_of : ∀ {b : Addr} {o : Obj}, s₁.heap.get? b = some o → H b = none → (hidT s₁.heap H).get? b = some o := fun e n => qdy e n
  have noA : ∀ {b : Addr} {o : Obj} {es : Array DictEntry} {ep : Nat}, s₁.heap.get? b = some o → o.data = .dict es ep → H b = none := fun {b o es ep} e d => by
   cases q : H b with
   | none => rfl
   | some u =>
    have e' : b = a := hA b (by rw [q]; simp)
    subst e'
    rw [ha] at e; cases e
    have d' : Data.seq vs.toArray _ = Data.dict es ep := d
    cases d'
  have nsK : ∀ {b : Addr} {m : Str → Option Value}, s₁.heap.Ns b m → (hidT s₁.heap H).Ns b m := fun {b m} ⟨o, es, ep, e, d, r⟩ => ⟨o, es, ep, base_of e (noA e d), d, r⟩
  have hKb : K.In (hidT s₁.heap H) := fun b o e => base_of (KX b o e) (by
   cases q : H b with
   | none => rfl
   | some u =>
    have e' : b = a := hA b (by rw [q]; simp)
    subst e'
    rw [hK (by rw [q]; simp)] at e; cases e)
  have hM : Mod K mg (hidT s₁.heap H) := ⟨hKb, nsK hns, ⟨mb, nsK hb, hbb⟩, let ⟨mc, h1, h2⟩ := hlim; ⟨mc, nsK h1, h2⟩⟩
  have e0 : Env0 P w K mg (hidT s₁.heap H) callerA [] s₁ H := ⟨rfl, hM, fun b o e => qgc e, Nat.le_of_eq (qbs _ _), trivial, fun b hb => absurd (show b ∈ ([] : List Addr) from hb) (by simp), hok, .of_eq hg⟩
  refine codeAny_mono ((F _ hKb (nsK hns)).run callerA [] s₁ H ⟨[.ref a], []⟩ [.ref a] [.ref a] _ _ hr e0 (hbind s₁ (.ref a)) (.cons rfl .nil) (hsp H hO hS)) fun r s' h => ?_
  cases r with
  | error e => exact (hCX H e s' h).elim
  | ok fl =>
   cases fl with
   | next => exact False.elim h
   | brk => exact False.elim h
   | cont => exact False.elim h
   | ret u =>
    obtain ⟨v, H', os, bare, un, hok', r', q⟩ := h
    have q' : v = .bl true := q
    subst q'
    obtain rfl : u = Value.bool true := r'
    refine ⟨rfl, OldK.of_keep fun b o e => ?_, os, bare⟩
    cases q : H b with
    | none => exact un.keep b o e q (by intro z; exact absurd (show b ∈ ([] : List Addr) from z) (by simp)) (by simp)
    | some u =>
     rcases hO b with z | ⟨ob, xs, z⟩
     ·rw [q] at z; cases z
     ·have z2 := un.frzs b ob _ z
      obtain ⟨e1, _⟩ := hok b _ z
      obtain ⟨e2, _⟩ := hok' b _ z2
      rw [e] at e1; cases e1
      exact e2
 cases hk : K.lookup a with
 | some o =>
  have e := KX a o hk
  rw [ha] at e
  cases e
  refine core (fun _ => none) (fun _ => .inl rfl) (.inr ⟨_, vs.toArray, _, hk, rfl, rfl, rfl, by rw [List.size_toArray, lenV]; exact hl, by simpa using rv⟩) (fun b u z => by have z' : (none : Option HO) = some u := z; cases z') (fun b z => absurd rfl z) fun z => absurd rfl z
 | none =>
  refine core (fun b => if b = a then some (.frz { cls := .type "list", data := .seq vs.toArray } (.lst (ns.map V.int))) else none) (fun b => ?_) (.inl (.inr ⟨{ cls := .type "list", data := .seq vs.toArray }, if_pos rfl⟩)) (fun b u z => ?_) (fun b z => ?_) fun _ => hk
  ·by_cases hb : b = a
   ·exact .inr ⟨_, _, if_pos hb⟩
   ·exact .inl (if_neg hb)
  ·by_cases hb : b = a
   ·have z' := (if_pos hb).symm.trans z
    cases z'
    subst hb
    exact ⟨ha, by rw [List.length_map]; exact hl, vs, _, rv, ha⟩
   ·have z' := (if_neg hb).symm.trans z
    cases z'
  ·by_cases hb : b = a
   ·exact hb
   ·exact absurd (if_neg hb) z
end L2
namespace L2
open PySem PySem.Spec PyProof.Rows
theorem walk_of {l : PySem.W.OpenLaw} {n k : Nat} {q : Program} {loose : List Str} {XP : (Str → Option Value) → Heap → Prop} {YP : World → Heap → Prop} {d : DefRec} {K : Params → PySem.W.Frag} {CX : World → CXT} {sp : World → Sp} {x : Str}
  (hn : l.most = some n) (hn2 : n ≤ sizeLine) (hdf : d.params.defaults = []) (hr : Room k callerA)
  (hY : ∀ (w : World) (h : Heap), YP w h → (K w.params).In h)
  (F : ∀ (w : World) (mg : Str → Option Value) (fa : Addr) (h : Heap), (K w.params).In h → h.Ns mainGlobals mg → mg d.name = some (.ref fa) →
   ∃ fd : FuncData, (∀ (s : Shared) (u : Value), BindsTo s fd ⟨[u], []⟩ [(x, u)]) ∧
    ∀ base : Heap, (K w.params).In base → base.Ns mainGlobals mg → FnOk l.prog w (K w.params) mg base (CX w) k fa fd [x] (sp w))
  (hsp : ∀ (w : World) (H : Hp) (a : Addr) (ns : List Int), ns.length ≤ n → Only H → SqL (K w.params) H a (ns.map V.int) → sp w [.ref a] H (fun v _ => v = .bl true) fun _ _ _ => False)
  (hCX : ∀ (w : World) (H : Hp) (s : Shared) (e : Value) (s' : Shared), CX w [] H s (fun _ _ _ => False) e s' → False) :
  PySem.W.WalkO q loose XP YP l.row.toRowW d [] (fun f vs => PySem.call f vs) := by
 refine Att.attach_call hn hdf fun w s₀ s₁ mg mb fa o pm cd doc a vs ns G Y ho hd hcd hmg hobj hints hlen hg => ?_
 have KX := hY w _ Y
 obtain ⟨fd, hb, hF⟩ := F w mg fa _ KX G.T.g hmg
 exact qem KX G.T.g G.T.b G.T.builtins G.T.nolimit hg hobj hints (Nat.le_trans hlen hn2) hr hF hb (fun H hO hS => hsp w H a ns hlen hO hS) fun H e s' => hCX w H s₁ e s'
end L2
namespace L2
open PySem PySem.Spec PyProof.Rows
def q18 (s : Stmt) (j : Nat) : Stmt := match s with
 | .ClassDef _ _ _ body _ _ _ _ _ _ _ => body.getD j (.Pass ⟨0, 0, 0, 0⟩)
 | _ => .Pass ⟨0, 0, 0, 0⟩
def q0g (s : Stmt) : Arguments := match s with
 | .FunctionDef _ a _ _ _ _ _ _ _ _ => a
 | _ => { posonlyargs := [], args := [], vararg := none, kwonlyargs := [], kw_defaults := [], kwarg := none, defaults := [] }
def q0c (s : Stmt) : List Stmt := match s with
 | .FunctionDef _ _ b _ _ _ _ _ _ _ => b
 | _ => []
def q03 (s : Stmt) : Scope := match s with
 | .FunctionDef _ _ _ _ _ _ sc _ _ _ => sc
 | _ => { kind := .function, names := [], isGenerator := false, isCoroutine := false }
abbrev CX0 : CXT := fun _ _ _ _ _ _ => False
abbrev E0 : XK := fun _ _ _ => False
theorem q0m {X : Cx} : q30 CX0 X E0 := fun _ _ _ _ _ _ _ h => h.elim
structure Fun (K : PySem.W.Frag) (x qual : Str) (st : Stmt) (f : Addr) (fd : FuncData) : Prop where
 ex : ∃ (oc : Value) (od : Option Addr) (kV doc pm : Value) (an : Option Addr) (cdv ct : Value) (osl : Array (Option Value)),
  fd = PySem.W.fnOf x qual (q0g st) (q0c st) (q03 st) .none kV doc pm an cdv ct ∧ K.lookup f = some ⟨oc, od, .func fd, osl⟩ ∧ PySem.W.codeIn K cdv qual = true
 kp : PySem.W.keepIn K (.ref f) = true
section
variable {P : Program} {w : World} {K : PySem.W.Frag} {mg : Str → Option Value} {base : Heap}
theorem Fun.ok {x qual : Str} {st : Stmt} {f : Addr} {fd : FuncData} {N ps : List Str} {k : Nat} {sp : Sp} (F : Fun K x qual st f fd) (S : FnScope N ps (q03 st)) (len : ∀ vs H Q E, sp vs H Q E → vs.length = ps.length)
  (hbody : ∀ (cdv : Value) (A : Around) (outer : List Env) (s : Shared) (H : Hp) (vs : List V) (Q : VK) (E : XK), Room k (A.deeper (envOfC qual (q03 st) s.heap.objs.size f cdv)) → sp vs H Q E →
   ∃ t, PSs (cxOf CX0 P w K mg base N qual (q03 st) f cdv A outer s H E).nox (q0c st) t ∧ t { nx := fun _ H' => Q .non H', rt := Q } (start N vs) H) : FnOk P w K mg base CX0 (k + 1) f fd ps sp := by
 obtain ⟨oc, od, kV, doc, pm, an, cdv, ct, osl, rfl, lk, hcd⟩ := F.ex
 refine qi6 lk hcd S len fun A outer s H vs Q E hr hsp => ?_
 obtain ⟨t, h, q⟩ := hbody cdv A outer s H vs Q E hr hsp
 exact ⟨t, h.nox, q⟩
theorem Fun.binds {x qual : Str} {st : Stmt} {f : Addr} {fd : FuncData} {ps : List Str} (F : Fun K x qual st f fd)
  (h : ∀ (kV doc pm : Value) (an : Option Addr) (cdv ct : Value) (us : List Value), us.length = ps.length → bindArgs (PySem.W.fnOf x qual (q0g st) (q0c st) (q03 st) .none kV doc pm an cdv ct) ⟨us, []⟩ = pure (ps.zip us)) : q48 K fd ps [] := by
 obtain ⟨oc, od, kV, doc, pm, an, cdv, ct, osl, rfl, lk, hcd⟩ := F.ex
 exact .all (h kV doc pm an cdv ct)
theorem q0o {x qual : Str} {st : Stmt} {f : Addr} {oc : Value} {od an : Option Addr} {osl : Array (Option Value)} {kV doc pm cdv ct : Value} (l : K.lookup f = some ⟨oc, od, .func (PySem.W.fnOf x qual (q0g st) (q0c st) (q03 st) .none kV doc pm an cdv ct), osl⟩)
  (c : PySem.W.codeIn K cdv qual = true) (k : PySem.W.keepIn K (.ref f) = true) : Fun K x qual st f (PySem.W.fnOf x qual (q0g st) (q0c st) (q03 st) .none kV doc pm an cdv ct) := ⟨⟨oc, od, kV, doc, pm, an, cdv, ct, osl, rfl, l, c⟩, k⟩
end
theorem q3r {A : Around} {k : Nat} (hr : Room k A) : A.units + 1 < cLine := Nat.lt_of_le_of_lt (Nat.add_le_add_left (by decide : 1 ≤ 64) _) hr.units
theorem q33 {n : Nat} (h : n ≤ 1000) : n < sizeLine := Nat.lt_of_le_of_lt h (by decide)
section
variable {X : Cx}
theorem pv (i : Nat) {x : Str} {pos : Pos} (hN : X.N[i]? = some x := by rfl) (hv : Vis X.env.scope x := by first | exact Or.inl rfl | exact Or.inr (Or.inl rfl) | exact Or.inr (Or.inr rfl)) (hd : (x == ("__debug__" : Str)) = false := by decide)
  (hcd : (x == ("__classdict__" : Str)) = false := by decide) : PE X (.Name x pos) (tVar i) := qi3 hN hv hd hcd
end
theorem iteF {A B : Prop} (h : B) : if false = true then A else B := by
 rw [if_neg Bool.false_ne_true]
 exact h
theorem iteT {A B : Prop} (h : A) : if true = true then A else B := by
 rw [if_pos rfl]
 exact h
theorem ite2 {c A B : Prop} [Decidable c] (h1 : c → A) (h2 : ¬ c → B) : if c then A else B := by
 by_cases h : c
 ·rw [if_pos h]
  exact h1 h
 ·rw [if_neg h]
  exact h2 h
theorem q6f {c A B : Prop} [Decidable c] (hc : c) (h : B) : if (!decide c) = true then A else B := by
 rw [decide_eq_true hc]
 exact iteF h
def Same (H H' : Hp) : Prop := ∀ b o, H b = some o → H' b = some o
theorem Same.free {H H' : Hp} (e : Same H H') {l : Addr} (h : H' l = Option.none) : H l = Option.none := by
 cases q : H l with
 | none => rfl
 | some o =>
  rw [e l o q] at h
  cases h
section
variable {κ : Type} [DecidableEq κ]
theorem qe4 {kvs : List (κ × V)} {k : κ} (h : valV kvs k = none) : ¬ k ∈ kvs.map (·.1) := by
 intro m
 obtain ⟨p, hp, e⟩ := List.mem_map.mp m
 have q : (kvs.any fun kv => decide (kv.1 = k)) = true := List.any_eq_true.mpr ⟨p, hp, decide_eq_true e⟩
 rw [q38, h] at q
 exact absurd q (by simp)
theorem qcl : ∀ {l : List κ} {k : κ}, l.Nodup → ¬ k ∈ l → (l ++ [k]).Nodup
 | [], k, _, _ => by simp
 | a :: r, k, h, hk => by
  obtain ⟨h1, h2⟩ := List.nodup_cons.mp h
  show (a :: (r ++ [k])).Nodup
  refine List.nodup_cons.mpr ⟨fun m => ?_, qcl h2 fun m => hk (List.mem_cons.mpr (Or.inr m))⟩
  rcases List.mem_append.mp m with q | q
  ·exact h1 q
  ·exact hk (List.mem_cons.mpr (Or.inl (List.mem_singleton.mp q).symm))
theorem qcw {kvs : List (κ × V)} {k : κ} (v : V) (hn : (kvs.map (·.1)).Nodup) (h : valV kvs k = none) : ((putK kvs k v).map (·.1)).Nodup := by
 rw [q9p v h, List.map_append]
 exact qcl hn (qe4 h)
end
end L2
section
namespace L2
open PySem PySem.Spec PyProof.Rows
section
variable {prog : Program} {w : World} {A : Around} {R : Result → Shared → Prop} {s : Shared}
abbrev FX : Value → Shared → Prop := fun _ _ => False
theorem q83 {elt target iter : Expr} {ifs : List Expr} {scope : Scope} {pos : Pos} {it acc : Value} {env : Env} (I : Nat → Shared → Prop)
  (turn : ∀ n s, I n s → wpAny (model prog w) A (pyNext it) (fun r s₁ => match r with
   | none => R (.ok .next) s₁
   | some v => wpAny (model prog w) A (letOwnedTupleGo target it v) (fun _ s₂ => wpAny (model prog w) A (assign target env v) (fun _ s₃ =>
     wpAny (model prog w) A (forIn ifs true fun c r => if r = true then do let ok ← isTrue c env (eval c env); pure (ForInStep.yield ok) else pure (ForInStep.yield r)) (fun ok s₄ =>
      if ok = true then wpAny (model prog w) A (eval elt env) (fun x s₅ =>
       wpAny (model prog w) A (call (.builtin "list.append") [acc, x]) (fun _ s₆ => ∃ m, m < n ∧ I m s₆) FX s₅) FX s₄
      else ∃ m, m < n ∧ I m s₄) FX s₃) FX s₂) FX s₁) FX s)
  (n : Nat) (h : I n s) :
  codeAny (model prog w) A (.compLoop (.ListComp elt [⟨target, iter, ifs, 0⟩] scope pos) 0 it acc env) R s := by
 refine codeAny_loop rfl I (fun n s hI => ?_) n h
 show wpAny _ A ((compTurn (.ListComp elt [⟨target, iter, ifs, 0⟩] scope pos) 0 it acc env).onRaise (fun x => do noteFrame x env; theTreesLotGoes x)) _ _ s
 refine wpAny_noted ?_
 rw [compTurn_list]
 refine wpAny_bind (wpAny_standAt (wpAny_bind (wpAny_mono (turn n s hI) (fun r s₁ h₁ => ?_) fun _ _ f => f.elim)))
 cases r with
 | none => exact wpAny_pure h₁
 | some v =>
  refine wpAny_bind (wpAny_mono h₁ (fun _ s₂ h₂ => wpAny_bind (wpAny_mono h₂ (fun _ s₃ h₃ => wpAny_bind (wpAny_mono h₃ (fun ok s₄ h₄ => ?_) fun _ _ f => f.elim)) fun _ _ f => f.elim)) fun _ _ f => f.elim)
  cases ok with
  | false => exact wpAny_pure ⟨rfl, h₄⟩
  | true =>
   exact wpAny_bind (wpAny_bind (wpAny_mono h₄ (fun x s₅ h₅ => wpAny_bind (wpAny_mono h₅ (fun _ s₆ h₆ => wpAny_pure (wpAny_pure ⟨rfl, h₆⟩)) fun _ _ f => f.elim)) fun _ _ f => f.elim))
end
def Cx.blk (X : Cx) (scope : Scope) (cl : List (Str × Addr)) (C : Addr) (NB : List Str) (s : Shared) (H : Hp) (fp : List Addr) (pins : List (Addr × Obj)) : Cx :=
 { X with N := NB, s₀ := s, H₀ := H, env := compEnvC scope cl C X.env, outer := X.stack, stack := X.stack, ex := fp, fn := fun x => scope.names.lookup x == some NameKind.local, pn := X.pn ++ pins, xe := FX }
def AllC (e : Env) : List (Str × Addr) → Prop
 | [] => True
 | p :: r => e.cells.lookup p.1 = some p.2 ∧ AllC e r
theorem AllC.get {e : Env} : ∀ {cl : List (Str × Addr)} {x : Str} {c : Addr}, AllC e cl → cl.lookup x = some c → e.cells.lookup x = some c
 | [], _, _, _, h => by simp at h
 | p :: r, x, c, ⟨h1, h2⟩, h => by
  rw [List.lookup_cons] at h
  cases q : x == p.1 with
  | true =>
   rw [q] at h
   have e1 : x = p.1 := beq_iff_eq.mp q
   have e2 : p.2 = c := Option.some.inj h
   rw [e1, ← e2]; exact h1
  | false =>
   rw [q] at h
   exact AllC.get h2 h
def q5e (X : Cx) (scope : Scope) (cl : List (Str × Addr)) : List (Option Nat) → List Str → Prop
 | [], _ => True
 | none :: r, _ :: n => q5e X scope cl r n
 | some i :: r, x :: n => (X.N[i]? = some x ∧ (X.env.kindOf x = some .cell ∨ X.env.kindOf x = some .free) ∧ ((relabel scope X.env).names.lookup x = some .cell ∨ (relabel scope X.env).names.lookup x = some .free) ∧ (cl.lookup x).isSome = true) ∧ q5e X scope cl r n
 | _ :: _, [] => False
theorem q5e.get {X : Cx} {scope : Scope} {cl : List (Str × Addr)} : ∀ {ix : List (Option Nat)} {NB : List Str}, q5e X scope cl ix NB → ∀ (j i : Nat) (x : Str), ix[j]? = some (some i) → NB[j]? = some x →
  X.N[i]? = some x ∧ (X.env.kindOf x = some .cell ∨ X.env.kindOf x = some .free) ∧ ((relabel scope X.env).names.lookup x = some .cell ∨ (relabel scope X.env).names.lookup x = some .free) ∧ (cl.lookup x).isSome = true
 | [], _, _, j, i, x, h, _ => by simp at h
 | none :: r, y :: n, h, 0, i, x, h1, h2 => by simp at h1
 | none :: r, y :: n, h, j + 1, i, x, h1, h2 => q5e.get (ix := r) (NB := n) h j i x (by simpa using h1) (by simpa using h2)
 | some i' :: r, y :: n, h, 0, i, x, h1, h2 => by
  simp at h1 h2
  subst h1 h2
  exact h.1
 | some i' :: r, y :: n, h, j + 1, i, x, h1, h2 => q5e.get (ix := r) (NB := n) h.2 j i x (by simpa using h1) (by simpa using h2)
 | none :: r, [], h, _, _, _, _, _ => False.elim h
 | some _ :: r, [], h, _, _, _, _, _ => False.elim h
structure CmpScope (X : Cx) (scope : Scope) (cl : List (Str × Addr)) (NB : List Str) (ix : List (Option Nat)) : Prop where
 clos : closureFor scope X.env = pure cl
 kind : scope.kind = .function
 nocell : ∀ y ∈ scope.names, y.2 ≠ .cell
 names : ∀ y ∈ scope.names, y.2 = .local → scope.names.lookup y.1 = some .local
 cells : AllC X.env cl
 dis : cl.all (fun p => !(scope.names.lookup p.1 == some NameKind.local)) = true
 has : (relabel scope X.env).names.all (fun y => !(y.2 == .cell || y.2 == .free) || (cl.lookup y.1).isSome) = true
 len : ix.length = NB.length
 free : q5e X scope cl ix NB
def q89 (ix : List (Option Nat)) (σ : St) : St := ix.map fun o => o.bind fun i => (σ[i]?).join
theorem q4a {β : Type} : ∀ {l : List (Str × β)} {x : Str} {k : β}, l.lookup x = some k → (x, k) ∈ l
 | [], _, _, h => by simp at h
 | p :: r, x, k, h => by
  rw [List.lookup_cons] at h
  cases q : x == p.1 with
  | true =>
   rw [q] at h
   have e1 : x = p.1 := beq_iff_eq.mp q
   have e2 : p.2 = k := Option.some.inj h
   rw [e1, ← e2]; exact List.mem_cons_self
  | false =>
   rw [q] at h
   exact List.mem_cons_of_mem _ (q4a h)
section
variable {X : Cx} {pins : List (Addr × Obj)} {σ : St} {H : Hp} {s : Shared}
theorem Inv.blk {scope : Scope} {cl : List (Str × Addr)} {NB : List Str} {ix : List (Option Nat)} {fp : List Addr} {h1 : Heap} {t : Nat} {m : Str → Option Value} {o : Obj}
  (S : CmpScope X scope cl NB ix) (I : Inv X pins σ H s) (hfp : ∀ b ∈ fp, FpOk X pins H b) (hob : ∀ b ∈ fp, ∃ o, s.heap.get? b = some o ∧ ∀ v, o.data ≠ .cell v)
  (hns : h1.Ns s.heap.objs.size m) (sb : Heap.SameBut s.heap.objs.size (s.heap.push o) h1) :
  Inv (X.blk scope cl s.heap.objs.size NB s H fp pins) [] (q89 ix σ) H { s with heap := h1, toks := t } := by
 have kept : ∀ b u, s.heap.get? b = some u → h1.get? b = some u := fun b u e =>
  sb.extBut b u (Nat.ne_of_lt (Heap.lt_size e)) (Heap.get?_push_of_some _ e)
 have cellOf : ∀ x c, cl.lookup x = some c → X.env.cells.lookup x = some c := fun x c e => S.cells.get e
 refine ⟨⟨I.ok.mod, S.kind, I.ok.glob, I.ok.blt, Nat.le_refl _, fun x y c e1 e2 => I.ok.inj x y c (cellOf x c e1) (cellOf y c e2), fun x hx => ?_, fun x c hf e => ?_, I.ok.hd, I.ok.frames, .inl rfl, fun b hb => ⟨?_, fun x c e => ?_⟩, I.bs, Nat.le_trans I.ok.bsz I.sz, fun b ob e hb => ?_, fun b hb hz => ?_, I.stack, I.stkFree⟩,
  rfl, I.bare, Un.kept kept, ⟨m, hns, fun i x v e1 e2 e3 => ?_⟩, fun x c e => ?_, I.hok.fresh (Nat.le_refl _), fun x c e => I.freeC x c (cellOf x c e), fun p hp => ?_, I.hok.kept kept, by unfold q89; rw [List.length_map]; exact S.len⟩
 ·-- has
  have hx' : (relabel scope X.env).names.lookup x = some .cell ∨ (relabel scope X.env).names.lookup x = some .free := hx
  have key : ∀ k : NameKind, (k == .cell || k == .free) = true → (relabel scope X.env).names.lookup x = some k → ∃ c, cl.lookup x = some c := fun k hk e => by
   have q := List.all_eq_true.mp S.has (x, k) (q4a e)
   have q' : (!(k == .cell || k == .free) || (cl.lookup x).isSome) = true := q
   rw [hk] at q'
   exact Option.isSome_iff_exists.mp (by simpa using q')
  rcases hx' with z | z
  ·exact key _ rfl z
  ·exact key _ rfl z
 ·-- cab
  have q := List.all_eq_true.mp S.dis (x, c) (q4a e)
  have hf' : (scope.names.lookup x == some NameKind.local) = true := hf
  have q' : (!(scope.names.lookup x == some NameKind.local)) = true := q
  rw [hf'] at q'
  cases q'
 ·-- b ≠ C
  obtain ⟨o', e, _⟩ := hob b hb
  exact Nat.ne_of_lt (Heap.lt_size e)
 ·exact (hfp b hb).2.2.2.2.1 x c (cellOf x c e)
 ·-- noex
  rcases (hfp b hb).2.2.2.1 with z | z
  ·exact I.ok.noex b ob e z
  ·exact absurd (Nat.lt_of_lt_of_le (Heap.lt_size e) (Nat.le_trans I.ok.bsz z)) (Nat.lt_irrefl _)
 ·-- exfs
  rcases List.mem_cons.mp (I.stkSub b hz) with z | z
  ·exact (hfp b hb).2.1 z
  ·exact (hfp b hb).2.2.1 z
 ·-- loc
  have e2' : (q89 ix σ)[i]? = some (some v) := e2
  unfold q89 at e2'
  rw [List.getElem?_map] at e2'
  cases q : ix[i]? with
  | none => rw [q] at e2'; cases e2'
  | some oi =>
   rw [q] at e2'
   cases oi with
   | none => cases e2'
   | some j =>
    have e4 : (σ[j]?).join = some v := Option.some.inj e2'
    have e5 : σ[j]? = some (some v) := by
     cases z : σ[j]? with
     | none => rw [z] at e4; cases e4
     | some y => rw [z] at e4; have : y = some v := e4; rw [this]
    obtain ⟨hN, hk, hk', hc⟩ := S.free.get i j x q e1
    obtain ⟨m0, hn0, hl0⟩ := I.loc
    have hv : Vis X.env.scope x := .inr hk
    obtain ⟨u, r, l⟩ := hl0 j x v hN e5 hv
    refine ⟨u, r, .inr ⟨hk', ?_⟩⟩
    obtain ⟨c, hc⟩ := Option.isSome_iff_exists.mp hc
    refine ⟨c, hc, ?_⟩
    have hc' := cellOf x c hc
    rcases l with ⟨k, _⟩ | ⟨_, c2, ec, oc, hoc, hd⟩
    ·rcases hk with z | z <;> (rw [z] at k; cases k)
    ·rw [hc'] at ec
     cases ec
     exact ⟨oc, kept _ _ hoc, hd⟩
 ·obtain ⟨v, oc, hoc, hd⟩ := I.cell x c (cellOf x c e)
  exact ⟨v, oc, kept _ _ hoc, hd⟩
 ·have hp' : p ∈ X.pn ++ pins := by
   have : p ∈ (X.pn ++ pins) ++ [] := hp
   simpa using this
  obtain ⟨e, n, ne, nf, d⟩ := I.pin p hp'
  refine ⟨kept _ _ e, n, Nat.ne_of_lt (Heap.lt_size e), fun z => ?_, d⟩
  rcases List.mem_cons.mp (I.stkSub p.1 z) with q | q
  ·exact ne q
  ·exact nf q
theorem Inv.unblk {scope : Scope} {cl : List (Str × Addr)} {C : Addr} {NB : List Str} {fp : List Addr} {pins' : List (Addr × Obj)} {σ' : St} {H' : Hp} {s' : Shared} (I : Inv X pins σ H s) (hfp : ∀ b ∈ fp, FpOk X pins H b)
  (I' : Inv (X.blk scope cl C NB s H fp pins) pins' σ' H' s') : Inv X pins σ H' s' :=
 I.call' I'.os I'.base I'.hok I'.bare fun b hb => ⟨(hfp b hb).2.2.2.1, (hfp b hb).2.1, (hfp b hb).2.2.2.2.1, (hfp b hb).2.2.2.2.2⟩
end
def qg4 (wi : TI) (ix : List (Option Nat)) (g : TG) (tc : TT) (te : TE) : TE := fun σ H Q => wi σ H fun J H1 => ∀ D, H1 D = none → ∃ W : Nat → Nat → St → List V → Hp → Prop,
 (∃ m, W 0 m (q89 ix σ) [] (upd H1 D (.lst []))) ∧ ∀ i m σ' ys H, W i m σ' ys H → H D = some (.lst ys) ∧
  ((J.stop i H ∧ Q (.ref D) H) ∨ (J.go i H ∧ ∃ N : St → List V → Hp → Prop, (∀ σ2 ys2 H2, N σ2 ys2 H2 → ∃ m', m' < m ∧ W (i + 1) m' σ2 ys2 H2) ∧ ∀ x H', J.yld i H x H' → g x σ' H' fun σ2 H2 => tc σ2 H2 fun b H3 =>
   if b = true then te σ2 H3 fun y H4 => H4 D = some (.lst ys) ∧ ys.length < sizeLine ∧ N σ2 (ys ++ [y]) (upd H4 D (.lst (ys ++ [y])))
   else N σ2 ys H3))
def PCs (X : Cx) (ifs : List Expr) (t : TT) : Prop :=
 ∀ (pins : List (Addr × Obj)) (s : Shared) (σ : St) (H : Hp) (Q : Bool → Hp → Prop), Inv X pins σ H s → t σ H Q →
  wpAny (model X.prog X.w) X.A (forIn ifs true fun c r => if r = true then do let ok ← isTrue c X.env (eval c X.env); pure (ForInStep.yield ok) else pure (ForInStep.yield r)) (TP X pins σ Q) X.xe s
def qby : TT := fun _ H Q => Q true H
theorem q4x {X : Cx} : PCs X [] qby := fun pins s σ H Q I h => wpAny_tests_nil ⟨H, I, h⟩
theorem qhh {X : Cx} {c : Expr} {t : TT} (h : PT X c t) : PCs X [c] t := fun pins s σ H Q I hq => wpAny_tests_one (h pins s σ H Q I hq)
theorem qdd {X : Cx} {elt target iter : Expr} {ifs : List Expr} {scope : Scope} {cl : List (Str × Addr)} {pos : Pos} {NB : List Str} {ix : List (Option Nat)} {g : TG} {tc : TT} {te : TE} {pins : List (Addr × Obj)} {σ : St} {H2 : Hp} {s2 : Shared}
  {it : Addr} {fp : List Addr} {tn : Nat → Heap → Prop} {J : It} {Q : VK} {RR : Value → Addr → Result → Shared → Prop} {E : Value → Shared → Prop}
  (hc : X.calm = true) (S : CmpScope X scope cl NB ix)
  (hg : ∀ C s H fp pins, PG (X.blk scope cl C NB s H fp pins) target g) (ht : ∀ C s H fp pins, PCs (X.blk scope cl C NB s H fp pins) ifs tc) (he : ∀ C s H fp pins, PE (X.blk scope cl C NB s H fp pins) elt te)
  (I2 : Inv X pins σ H2 s2) (T : Turn X.prog X.w X.K target J fp it tn) (st2 : tn 0 s2.heap) (f2 : ∀ b ∈ fp, FpOk X pins H2 b)
  (hr : ∀ D, H2 D = none → ∃ W : Nat → Nat → St → List V → Hp → Prop,
   (∃ m, W 0 m (q89 ix σ) [] (upd H2 D (.lst []))) ∧ ∀ i m σ' ys H, W i m σ' ys H → H D = some (.lst ys) ∧
    ((J.stop i H ∧ Q (.ref D) H) ∨ (J.go i H ∧ ∃ N : St → List V → Hp → Prop, (∀ σ2 ys2 H2, N σ2 ys2 H2 → ∃ m', m' < m ∧ W (i + 1) m' σ2 ys2 H2) ∧ ∀ x H', J.yld i H x H' → g x σ' H' fun σ2 H2 => tc σ2 H2 fun b H3 =>
     if b = true then te σ2 H3 fun y H4 => H4 D = some (.lst ys) ∧ ys.length < sizeLine ∧ N σ2 (ys ++ [y]) (upd H4 D (.lst (ys ++ [y])))
     else N σ2 ys H3)))
  (hRR : ∀ D C H' s' m, Inv X pins σ H' s' → s'.heap.Ns C m → H' C = none → X.s₀.heap.objs.size ≤ C → C ≠ X.env.locals → (∀ x c, X.env.cells.lookup x = some c → c ≠ C) → (∀ p ∈ X.pn ++ pins, p.1 ≠ C) → Q (.ref D) H' → RR (.ref D) C (.ok .next) s') :
  wpAny (model X.prog X.w) X.A (newList []) (fun acc s₃ => wpAny (model X.prog X.w) X.A (newFunctionEnv scope X.env.globals cl [] X.env.qual none .none (some X.env)) (fun cenv s₄ =>
   codeAny (model X.prog X.w) X.A (.compStart (.ListComp elt [⟨target, iter, ifs, 0⟩] scope pos) 0 (.ref it) acc { cenv with scope := relabel scope X.env }) (RR acc cenv.locals) s₄) E s₃) E s2 := by
 refine wpAny_newObj_type (wpAny_newFunctionEnv S.nocell (by intro y hy; simp at hy) (fun h₁ hns₁ hsb₁ => ?_) S.kind)
 dsimp only at hns₁ hsb₁ ⊢
 have hD : H2 s2.heap.objs.size = none := I2.fresh
 have I3 : Inv X pins σ (upd H2 s2.heap.objs.size (.lst [])) { s2 with heap := s2.heap.push { cls := .type "list", dict := none, data := .seq ([] : List Value).toArray }, toks := s2.toks } :=
  I2.lnew (ys := []) (its := []) .nil (Nat.zero_le _)
 generalize hs3 : ({ s2 with heap := s2.heap.push { cls := .type "list", dict := none, data := .seq ([] : List Value).toArray }, toks := s2.toks } : Shared) = s3 at I3
 have eh : s3.heap = s2.heap.push { cls := .type "list", dict := none, data := .seq ([] : List Value).toArray } := by rw [← hs3]
 have f3 : ∀ b ∈ fp, FpOk X pins (upd H2 s2.heap.objs.size (.lst [])) b := fun b hb => by
  obtain ⟨o, e, _⟩ := T.obj _ _ st2 b hb
  exact ⟨by rw [q08 (Nat.ne_of_lt (Heap.lt_size e))]; exact (f2 b hb).1, (f2 b hb).2⟩
 have old3 : ∀ b o, s2.heap.get? b = some o → s3.heap.get? b = some o := fun b o e => by rw [eh]; exact Heap.get?_push_of_some _ e
 have st3 : tn 0 s3.heap := T.keep _ _ _ st2 fun b _ o e => old3 b o e
 rw [← eh] at hns₁ hsb₁ ⊢
 have I4 := Inv.blk (t := s2.toks + ([] : List (Str × Value)).length) S I3 f3 (fun b hb => T.obj _ _ st3 b hb) hns₁ hsb₁
 have e4 : ({ s3 with heap := h₁, toks := s2.toks + ([] : List (Str × Value)).length } : Shared) = { s2 with heap := h₁, toks := s2.toks + ([] : List (Str × Value)).length } := by rw [← hs3]
 rw [e4] at I4
 have st4 : tn 0 h₁ := T.keep _ _ _ st3 fun b _ o e => hsb₁.extBut b o (Nat.ne_of_lt (Heap.lt_size e)) (Heap.get?_push_of_some _ e)
 obtain ⟨W, ⟨m0, w0⟩, turn⟩ := hr _ hD
 have stat : ∀ {H' : Hp}, (∀ b ∈ fp, H' b = none) → ∀ b ∈ fp, FpOk (X.blk scope cl s3.heap.objs.size NB s3 (upd H2 s2.heap.objs.size (.lst [])) fp pins) [] H' b := fun hn b hb => by
  obtain ⟨o, e, _⟩ := T.obj _ _ st3 b hb
  refine ⟨hn b hb, Nat.ne_of_lt (Heap.lt_size e), fun z => ?_, .inl hb, fun x c q => (f3 b hb).2.2.2.2.1 x c (S.cells.get q), fun p hp => (f3 b hb).2.2.2.2.2 p ?_⟩
  ·rcases List.mem_cons.mp (I3.stkSub b z) with q | q
   ·exact (f3 b hb).2.1 q
   ·exact (f3 b hb).2.2.1 q
  ·have : p ∈ (X.pn ++ pins) ++ [] := hp
   simpa using this
 have loop : codeAny (model X.prog X.w) X.A (.compLoop (.ListComp elt [⟨target, iter, ifs, 0⟩] scope pos) 0 (.ref it) (.ref s2.heap.objs.size) (compEnvC scope cl s3.heap.objs.size X.env))
   (RR (.ref s2.heap.objs.size) s3.heap.objs.size) { s2 with heap := h₁, toks := s2.toks + ([] : List (Str × Value)).length } := by
  refine q83 (fun n s' => ∃ i σ' ys H', Inv (X.blk scope cl s3.heap.objs.size NB s3 (upd H2 s2.heap.objs.size (.lst [])) fp pins) [] σ' H' s' ∧ tn i s'.heap ∧ (∀ b ∈ fp, H' b = none) ∧ W i n σ' ys H') ?_ m0 ⟨0, _, [], _, I4, st4, fun b hb => (f3 b hb).1, w0⟩
  rintro n s5 ⟨i, σ5, ys, H5, I5, st5, fr5, w5⟩
  obtain ⟨hD5, (⟨stop, qn⟩ | ⟨go, N, hN, step⟩)⟩ := turn i n σ5 ys H5 w5
  ·refine thn (T.done (X.blk scope cl s3.heap.objs.size NB s3 (upd H2 s2.heap.objs.size (.lst [])) fp pins) rfl rfl rfl hc i [] s5 σ5 H5 FX I5 (stat fr5) st5 stop) fun r s6 ⟨hr6, I6⟩ => ?_
   subst hr6
   obtain ⟨m6, hn6, _⟩ := I6.loc
   refine hRR _ _ H5 s6 m6 (I3.unblk f3 I6) hn6 I6.free I3.sz (fun z => ?_) (fun x c e z => ?_) (fun p hp z => ?_) qn
   ·have := I3.lt
    rw [← z] at this
    exact absurd this (Nat.lt_irrefl _)
   ·obtain ⟨v, oc, hoc, _⟩ := I3.cell x c e
    have := Heap.lt_size hoc
    rw [z] at this
    exact absurd this (Nat.lt_irrefl _)
   ·have := Heap.lt_size (I3.pin p hp).1
    rw [z] at this
    exact absurd this (Nat.lt_irrefl _)
  ·refine thn (T.item (X.blk scope cl s3.heap.objs.size NB s3 (upd H2 s2.heap.objs.size (.lst [])) fp pins) rfl rfl rfl hc i [] s5 σ5 H5 FX I5 (stat fr5) st5 go) fun r s6 ⟨u, hr6, h6⟩ => ?_
   subst hr6
   refine thn h6 fun _ s7 ⟨x, H7, I7, r7, y7, st7, fr7⟩ => ?_
   have I7' := I7.pinned (stat fr7) (T.obj _ _ st7)
   refine thn (hg _ _ _ _ _ _ s7 σ5 H7 x u _ I7' r7 (step x H7 y7)) fun _ s8 ⟨σ8, H8, I8, q8⟩ => ?_
   refine thn (ht _ _ _ _ _ _ s8 σ8 H8 _ I8 q8) fun b s9 ⟨H9, I9, q9⟩ => ?_
   have fin : ∀ {s' : Shared} {H' : Hp}, Inv (X.blk scope cl s3.heap.objs.size NB s3 (upd H2 s2.heap.objs.size (.lst [])) fp pins) ([] ++ q5o fp s7.heap) σ8 H' s' → tn (i + 1) s'.heap ∧ ∀ b ∈ fp, H' b = none := fun {s' H'} I' => by
    refine ⟨T.keep _ _ _ st7 fun b hb o e => (I'.pin (b, o) (List.mem_append_right _ (List.mem_append_right _ (q2d hb e)))).1, fun b hb => ?_⟩
    obtain ⟨o, e, d⟩ := T.obj _ _ st7 b hb
    exact (I'.pin (b, o) (List.mem_append_right _ (List.mem_append_right _ (q2d hb e)))).2.1
   cases b with
   | false =>
    obtain ⟨m', hm, w9⟩ := hN σ8 ys H9 (show N σ8 ys H9 from q9)
    obtain ⟨st9, fr9⟩ := fin I9
    exact ⟨m', hm, i + 1, σ8, ys, H9, I9.unpinned, st9, fr9, w9⟩
   | true =>
    refine thn (he _ _ _ _ _ _ s9 σ8 H9 _ I9 q9) fun y s10 ⟨vy, H10, I10, r10, hD10, hl10, n10⟩ => ?_
    obtain ⟨m', hm, w10⟩ := hN _ _ _ n10
    refine thn (q1e _ s10 σ8 H10 (.ref s2.heap.objs.size) [vy] (.ref s2.heap.objs.size) [y] (fun v H' => v = .non ∧ H' = upd H10 s2.heap.objs.size (.lst (ys ++ [vy]))) I10 rfl (.cons r10 .nil) ⟨_, ys, vy, rfl, rfl, hD10, hl10, rfl, rfl⟩) fun _ s11 ⟨_, H11, I11, _, _, e11⟩ => ?_
    subst e11
    obtain ⟨st11, fr11⟩ := fin I11
    exact ⟨m', hm, i + 1, σ8, ys ++ [vy], _, I11.unpinned, st11, fr11, w10⟩
 exact codeAny_compStart_list loop (T.self _ 0 _ _ _ st4 loop)
section
variable {X : Cx} {elt target iter : Expr} {ifs : List Expr} {scope : Scope} {cl : List (Str × Addr)} {pos spos py : Pos} {NB : List Str} {ix : List (Option Nat)} {wi : TI} {g : TG} {tc : TT} {te : TE}
theorem q46 (hc : X.calm = true) (S : CmpScope X scope cl NB ix) (hi : PI X target iter wi)
  (hg : ∀ C s H fp pins, PG (X.blk scope cl C NB s H fp pins) target g) (ht : ∀ C s H fp pins, PCs (X.blk scope cl C NB s H fp pins) ifs tc) (he : ∀ C s H fp pins, PE (X.blk scope cl C NB s H fp pins) elt te)
  (hs : ∀ x, foldedSetIterable iter X.env x = pure x := by intro _; rfl) : PE X (.ListComp elt [⟨target, iter, ifs, 0⟩] scope pos) (qg4 wi ix g tc te) := by
 intro pins s σ H Q I h
 rw [eval_ListComp]
 refine wpAny_comprehension_free (use := none) rfl hs S.clos S.kind S.names (thn (hi pins s σ H _ I h) fun xv s1 h1 => thn h1 fun itv s2 h2 => ?_)
 obtain ⟨it, fp, tn, J, H2, e, I2, T, st2, f2, hr⟩ := h2
 subst e
 refine qdd (Q := Q) (RR := fun acc C => compPost (model X.prog X.w) X.A X.xe none (EP X pins σ Q) acc C) hc S hg ht he I2 T st2 f2 hr ?_
 intro D C H' s' m I' hn hC h0 hL hcl hp q
 exact ⟨m, hn, fun h' sb => ⟨.ref D, H', I'.turned (t' := s'.toks) (fun b o hb e => (sb.2 b hb).trans e) hC (Ne.symm (Ne.symm hL)) (.inr h0) hcl hp, rfl, q⟩⟩
end
theorem q32 {K : PySem.W.Frag} {a : Addr} {xs : List V} {g : TG} {tc : TT} {te : TE} {σ0 : St} {Hs : Hp} {D : Addr} {Q : VK} (Pv : Nat → St → List V → Hp → Prop) (h0 : Pv 0 σ0 [] (upd Hs D (.lst [])))
  (hl : ∀ i σ ys H, i ≤ xs.length → Pv i σ ys H → SqL K H a xs ∧ H D = some (.lst ys))
  (hs : ∀ i x σ ys H, xs[i]? = some x → Pv i σ ys H → g x σ H fun σ2 H2 => tc σ2 H2 fun b H3 =>
   if b = true then te σ2 H3 fun y H4 => H4 D = some (.lst ys) ∧ ys.length < sizeLine ∧ Pv (i + 1) σ2 (ys ++ [y]) (upd H4 D (.lst (ys ++ [y]))) else Pv (i + 1) σ2 ys H3)
  (hd : ∀ σ ys H, Pv xs.length σ ys H → Q (.ref D) H) :
  ∃ W : Nat → Nat → St → List V → Hp → Prop, (∃ m, W 0 m σ0 [] (upd Hs D (.lst []))) ∧ ∀ i m σ' ys H, W i m σ' ys H → H D = some (.lst ys) ∧
   (((Itl K a).stop i H ∧ Q (.ref D) H) ∨ ((Itl K a).go i H ∧ ∃ N : St → List V → Hp → Prop, (∀ σ2 ys2 H2, N σ2 ys2 H2 → ∃ m', m' < m ∧ W (i + 1) m' σ2 ys2 H2) ∧ ∀ x H', (Itl K a).yld i H x H' → g x σ' H' fun σ2 H2 => tc σ2 H2 fun b H3 =>
    if b = true then te σ2 H3 fun y H4 => H4 D = some (.lst ys) ∧ ys.length < sizeLine ∧ N σ2 (ys ++ [y]) (upd H4 D (.lst (ys ++ [y]))) else N σ2 ys H3)) := by
 refine ⟨fun i m σ ys H => i ≤ xs.length ∧ m = xs.length - i ∧ Pv i σ ys H, ⟨_, Nat.zero_le _, rfl, h0⟩, ?_⟩
 rintro i m σ' ys H ⟨hi, rfl, hp⟩
 obtain ⟨hq, hD⟩ := hl i σ' ys H hi hp
 refine ⟨hD, ?_⟩
 by_cases e : i < xs.length
 ·refine .inr ⟨⟨xs, xs[i], hq, List.getElem?_eq_getElem e⟩, Pv (i + 1), fun σ2 ys2 H2 n => ⟨xs.length - (i + 1), by omega, e, rfl, n⟩, ?_⟩
  rintro x H' ⟨rfl, hx⟩
  exact hs i x σ' ys H' (hx xs hq) hp
 ·have ei : i = xs.length := by omega
  subst ei
  exact .inl ⟨⟨xs, hq, Nat.le_refl _⟩, hd σ' ys H hp⟩
end L2
end
section
namespace L2
open PySem PySem.Spec PyProof.Rows
def kitB (a b : String) : Option Bool := if (Value.type a == Value.type b) = true then some true else if PySem.W.kitMeta b = true then (PySem.fastBuiltinMro a).map (·.contains (Value.type b)) else none
theorem q1d {K : PySem.W.Frag} {a b : String} {v : Bool} (h : kitB a b = some v) : PySem.W.kitOne K (.type a) (.type b) = some v := h
section
variable {X : Cx}
theorem q0s : q55 X (.builtin "isinstance") (fun xs H Q => ∃ x T t b, xs = [x, .ty T] ∧ TyOf X.K H x t ∧ PySem.W.kitOne X.K t (.type T) = some b ∧ Q (.bl b) H) := by
 intro pins s σ H xs us Q I r h
 obtain ⟨x, T, t, b, rfl, ty, e, q⟩ := h
 obtain ⟨u, w', rfl, ru, rw⟩ := qjf r
 obtain rfl : w' = Value.type T := rw
 exact qb5 I ru ty e fun tk => ⟨.bl b, H, I.tok tk, rfl, q⟩
theorem q7f : q55 X (.type "dict") (fun xs H Q => ∃ a kvs, xs = [V.ref a] ∧ Rd H a (.dK kvs) ∧ ∀ p, H p = none → Q (.ref p) (upd H p (.dK kvs))) := by
 intro pins s σ H xs us Q I r h
 obtain ⟨a, kvs, rfl, ha, q⟩ := h
 obtain ⟨u, rfl, ru⟩ := q6g r
 obtain rfl : u = Value.ref a := ru
 exact qeq I ha fun p s' hp I' => ⟨.ref p, _, I', rfl, q p hp⟩
end
inductive EqH (K : PySem.W.Frag) (H : Hp) : Nat → V → V → Bool → Prop
 | flat {n : Nat} {x y : V} (fx : qe0 x = true) (fy : qe0 y = true) : EqH K H n x y (eqV x y)
 | same {n : Nat} (a : Addr) : EqH K H n (.ref a) (.ref a) true
 | lst {n : Nat} {a b : Addr} {xs ys : List V} {e : Nat → Bool} (ne : a ≠ b) (ha : SqL K H a xs) (hb : SqL K H b ys) (hl : xs.length = ys.length)
   (h : ∀ (j : Nat) x y, xs[j]? = some x → ys[j]? = some y → EqH K H n x y (e j)) : EqH K H (n + 1) (.ref a) (.ref b) ((List.range xs.length).all e)
 | lstN {n : Nat} {a b : Addr} {xs ys : List V} (ne : a ≠ b) (ha : SqL K H a xs) (hb : SqL K H b ys) (hl : xs.length ≠ ys.length) : EqH K H n (.ref a) (.ref b) false
 | tup {n : Nat} {a b : Addr} {xs ys : List V} {e : Nat → Bool} (ne : a ≠ b) (ha : SqT K H a xs) (hb : SqT K H b ys)
   (h : ∀ (j : Nat) x y, xs[j]? = some x → ys[j]? = some y → EqH K H n x y (e j)) : EqH K H (n + 1) (.ref a) (.ref b) ((List.range (min xs.length ys.length)).all e && xs.length == ys.length)
section
variable {X : Cx} {pins : List (Addr × Obj)} {σ : St} {H : Hp} {s : Shared}
theorem q4d {xs : List V} {its : List Value} (r : Vals xs its) {j : Nat} (h : j < its.length) : ∃ x, xs[j]? = some x ∧ RelV x its[j] := by
 have hx : j < xs.length := by rw [r.length]; exact h
 obtain ⟨u, e, q⟩ := r.get (List.getElem?_eq_getElem hx)
 refine ⟨_, List.getElem?_eq_getElem hx, ?_⟩
 rw [List.getElem?_eq_getElem h] at e
 cases e
 exact q
theorem EqH.at (I : Inv X pins σ H s) {n : Nat} {x y : V} {r : Bool} (h : EqH X.K H n x y r) : ∀ (A : Around) (u v : Value), A.units + n < cLine → RelV x u → RelV y v → SeqAt.EqAt A s u v r := by
 induction h with
 | flat fx fy => intro A u v _ ru rv; exact qib ru rv fx fy
 | same a =>
  intro A u v _ ru rv
  obtain rfl : u = Value.ref a := ru
  obtain rfl : v = Value.ref a := rv
  exact SeqAt.EqAt.same _
 | @lst n a b xs ys e ne ha hb hl h ih =>
  intro A u v hu ru rv
  obtain rfl : u = Value.ref a := ru
  obtain rfl : v = Value.ref b := rv
  obtain ⟨ia, ra, pa, _⟩ := I.list ha
  obtain ⟨ib, rb, pb, _⟩ := I.list hb
  have l1 := ra.length
  have l2 := rb.length
  have q := SeqAt.RcAt.lists (A := A) (e := e) pa.isList pb.isList (by simp; omega) (by omega) fun j h1 h2 => by
   have h1' : j < ia.length := by simpa using h1
   have h2' : j < ib.length := by simpa using h2
   obtain ⟨x, ex, rx⟩ := q4d ra h1'
   obtain ⟨y, ey, ry⟩ := q4d rb h2'
   have := ih j x y ex ey A.in1 ia[j] ib[j] (by show A.units + 1 + n < cLine; omega) rx ry
   simpa using this
  have e1 : ia.toArray.size = xs.length := by simp; omega
  rw [e1] at q
  exact SeqAt.EqAt.of_refs ne q
 | @lstN n a b xs ys ne ha hb hl =>
  intro A u v hu ru rv
  obtain rfl : u = Value.ref a := ru
  obtain rfl : v = Value.ref b := rv
  obtain ⟨ia, ra, pa, _⟩ := I.list ha
  obtain ⟨ib, rb, pb, _⟩ := I.list hb
  have l1 := ra.length
  have l2 := rb.length
  exact SeqAt.EqAt.of_refs ne (SeqAt.RcAt.lists_lengths pa.isList pb.isList (by simp; omega) (by omega))
 | @tup n a b xs ys e ne ha hb h ih =>
  intro A u v hu ru rv
  obtain rfl : u = Value.ref a := ru
  obtain rfl : v = Value.ref b := rv
  obtain ⟨ia, ra, pa, _⟩ := I.tuple ha
  obtain ⟨ib, rb, pb, _⟩ := I.tuple hb
  have l1 := ra.length
  have l2 := rb.length
  have q := SeqAt.RcAt.tuples (A := A) (e := e) (show s.heap.IsTuple a ia.toArray from pa) (show s.heap.IsTuple b ib.toArray from pb) (by omega) fun j h1 h2 => by
   have h1' : j < ia.length := by simpa using h1
   have h2' : j < ib.length := by simpa using h2
   obtain ⟨x, ex, rx⟩ := q4d ra h1'
   obtain ⟨y, ey, ry⟩ := q4d rb h2'
   have := ih j x y ex ey A.in1 ia[j] ib[j] (by show A.units + 1 + n < cLine; omega) rx ry
   simpa using this
  have e1 : ia.toArray.size = xs.length := by simp; omega
  have e2 : ib.toArray.size = ys.length := by simp; omega
  rw [e1, e2] at q
  exact SeqAt.EqAt.of_refs ne q
end
section
variable {X : Cx}
def rEqL (K : PySem.W.Frag) (neg : Bool) : R2 := fun x y H Q => ∃ a b xs ys e, x = .ref a ∧ y = .ref b ∧ SqL K H a xs ∧ SqL K H b ys ∧ xs.length = ys.length ∧ (∀ (j : Nat) x y, xs[j]? = some x → ys[j]? = some y → EqH K H 60 x y (e j)) ∧
 Q (.bl (if neg then !(List.range xs.length).all e else (List.range xs.length).all e)) H
theorem qik {pins : List (Addr × Obj)} {σ : St} {H : Hp} {s : Shared} {A : Around} (I : Inv X pins σ H s) (hu : A.units + 64 < cLine) {xs ys : List V} {e : Nat → Bool} (h : ∀ (j : Nat) x y, xs[j]? = some x → ys[j]? = some y → EqH X.K H 60 x y (e j))
  {ia ib : List Value} (ra : Vals xs ia) (rb : Vals ys ib) : ∀ j (h1 : j < ia.toArray.size) (h2 : j < ib.toArray.size), SeqAt.EqAt A.in1 s ia.toArray[j] ib.toArray[j] (e j) := fun j h1 h2 => by
 have h1' : j < ia.length := by simpa using h1
 have h2' : j < ib.length := by simpa using h2
 obtain ⟨x, ex, rx⟩ := q4d ra h1'
 obtain ⟨y, ey, ry⟩ := q4d rb h2'
 have := (h j x y ex ey).at I A.in1 ia[j] ib[j] (by show A.units + 1 + 60 < cLine; omega) rx ry
 simpa using this
theorem qjm (hu : X.A.units + 64 < cLine) : OpR X (compareOp .NotEq) (rEqL X.K true) := by
 intro pins s σ H x y v u Q I rx ry h
 obtain ⟨a, b, xs, ys, e, rfl, rfl, ha, hb, hl, h, q⟩ := h
 obtain rfl : v = Value.ref a := rx
 obtain rfl : u = Value.ref b := ry
 obtain ⟨ia, ra, pa, _⟩ := I.list ha
 obtain ⟨ib, rb, pb, _⟩ := I.list hb
 have l1 := ra.length
 have l2 := rb.length
 have e1 : ia.toArray.size = xs.length := by simp; omega
 exact SeqAt.RcNeAt.lists (A := X.A) (e := e) pa.isList pb.isList (by simp; omega) (by omega) (qik I hu h ra rb) _ _ _ _ ⟨_, H, I, (by rw [e1]; rfl), q⟩
theorem q4f {κ β : Type} [DecidableEq κ] : ∀ {l : List (κ × β)} {k : κ} {v : β}, (l.map (·.1)).Nodup → (k, v) ∈ l → (l.find? fun kv => decide (kv.1 = k)) = some (k, v)
 | [], _, _, _, h => by simp at h
 | p :: r, k, v, hn, hm => by
  have hn' : (p.1 :: r.map (·.1)).Nodup := hn
  obtain ⟨h1, h2⟩ := List.nodup_cons.mp hn'
  rcases List.mem_cons.mp hm with e | hm
  ·rw [← e]; simp
  ·have ne : ¬ p.1 = k := fun e => h1 (List.mem_map.mpr ⟨(k, v), hm, e.symm⟩)
   rw [List.find?_cons_of_neg (by simpa using ne)]
   exact q4f h2 hm
end
end L2
end
section
namespace L2
open PySem PySem.Spec PyProof.Rows
structure Df (P : Program) (w : World) (K : PySem.W.Frag) (mg : Str → Option Value) (base : Heap) (CX : CXT) (k : Nat) (x : Str) (ps : List Str) (sp : Sp) : Prop where
 ex : ∃ (f : Addr) (fd : FuncData), mg x = some (.ref f) ∧ PySem.W.keepIn K (.ref f) = true ∧ q48 K fd ps [] ∧ FnOk P w K mg base CX k f fd ps sp
structure Md (P : Program) (w : World) (K : PySem.W.Frag) (mg : Str → Option Value) (base : Heap) (CX : CXT) (C : Addr) (k : Nat) (m : Str) (ps : List Str) (sp : Sp) : Prop where
 cl : Cls K C
 ex : ∃ (f : Addr) (fd : FuncData), Meth K C m f ∧ q48 K fd ps [] ∧ FnOk P w K mg base CX k f fd ps sp
structure Cd (P : Program) (w : World) (K : PySem.W.Frag) (mg : Str → Option Value) (base : Heap) (CX : CXT) (C : Addr) (k : Nat) (x : Str) (ps : List Str) (sp : Sp) : Prop where
 ex : ∃ (f : Addr) (fd : FuncData), mg x = some (.ref C) ∧ Mk K C f ∧ q48 K fd ps [] ∧ FnOk P w K mg base CX k f fd ps sp
section
variable {X : Cx} {CX : CXT} {k : Nat} {C : Addr} {ps : List Str} {sp : Sp} {E : XK} {x m : Str} {p pos apos : Pos} {e o : Expr} {es : List Expr} {ta : TE} {t : TA}
theorem q0z (D : Df X.prog X.w X.K X.mg X.base CX k x ps sp) (hr : Room k X.A) (hx : q30 CX X E) (ha : PA X (e :: es) t) (hg : Gl X x := by rfl) (hdb : (x == ("__debug__" : Str)) = false := by decide)
  (he : starEach (e :: es) X.env = (false, eval e X.env) :: starEach es X.env := by rfl) (hpl : (backTo pos (starEach es X.env)).any (·.1) = false := by rfl) : PE X (.Call (.Name x p) (e :: es) [] pos) (qj9 sp [] E t) := by
 obtain ⟨f, fd, hm, hk, hb, F⟩ := D.ex
 exact qhg F hr hg hm hk hb .nil hx ha hdb he hpl
theorem q31 {pl : Sem Bool} (D : Md X.prog X.w X.K X.mg X.base CX C k m ps sp) (hr : Room k X.A) (hx : q30 CX X E) (ho : PE X o ta) (ha : PA X (e :: es) t)
  (hst : starEach (e :: es) X.env = (false, eval e X.env) :: starEach es X.env := by rfl) (hpl : (backTo pos (starEach es X.env)).any (·.1) = false := by rfl)
  (ht : eval (.Call (.Attribute o m apos) (e :: es) [] pos) X.env = (do
   let ov ← eval o X.env
   standAt apos.atName
   let (f, first) ← holding [ov] (getMethod ov m pl)
   callWith pos f first (backTo pos (starEach (e :: es) X.env)) (backToKw pos (keywordEach [] X.env))) := by rfl) :
  PE X (.Call (.Attribute o m apos) (e :: es) [] pos) (qeg C m sp [] E ta t) := by
 obtain ⟨f, fd, hm, hb, F⟩ := D.ex
 exact qgv ho D.cl hm F hr hb .nil hx ha hst hpl ht
theorem qf0 {pl : Sem Bool} (D : Md X.prog X.w X.K X.mg X.base CX C k m ps sp) (hr : Room k X.A) (hx : q30 CX X E) (ho : PE X o ta)
  (ht : eval (.Call (.Attribute o m apos) [] [] pos) X.env = (do
   let ov ← eval o X.env
   standAt apos.atName
   let (f, first) ← holding [ov] (getMethod ov m pl)
   callWith pos f first (backTo pos (starEach [] X.env)) (backToKw pos (keywordEach [] X.env))) := by rfl) :
  PE X (.Call (.Attribute o m apos) [] [] pos) (qeg C m sp [] E ta tNil) := by
 obtain ⟨f, fd, hm, hb, F⟩ := D.ex
 exact qej ho D.cl hm F hr hb .nil hx ht
theorem qgo (D : Cd X.prog X.w X.K X.mg X.base CX C k x ps sp) (hr : Room (k + 1) X.A) (hx : q30 CX X E) (ha : PA X (e :: es) t) (hg : Gl X x := by rfl) (hdb : (x == ("__debug__" : Str)) = false := by decide)
  (he : starEach (e :: es) X.env = (false, eval e X.env) :: starEach es X.env := by rfl) (hpl : (backTo pos (starEach es X.env)).any (·.1) = false := by rfl) : PE X (.Call (.Name x p) (e :: es) [] pos) (qj5 C sp [] E t) := by
 obtain ⟨f, fd, hm, M, hb, F⟩ := D.ex
 exact qgt M F hr hg hm hb .nil hx ha hdb he hpl
end
def Kp (ex : List Addr) (H H' : Hp) : Prop := ∀ b o, H b = some o → b ∉ ex → H' b = some o
theorem Kp.refl (ex : List Addr) (H : Hp) : Kp ex H H := fun _ _ h _ => h
theorem Kp.trans {ex : List Addr} {H H1 H2 : Hp} (a : Kp ex H H1) (b : Kp ex H1 H2) : Kp ex H H2 := fun c o h n => b c o (a c o h n) n
theorem Kp.new {ex : List Addr} {H : Hp} {p : Addr} {o : HO} (h : H p = none) : Kp ex H (upd H p o) := fun b u e _ => by rw [q08 (q09 e h)]; exact e
theorem Kp.put {ex : List Addr} {H : Hp} {p : Addr} {o : HO} (h : p ∈ ex) : Kp ex H (upd H p o) := fun b u e n => by
 have nb : b ≠ p := fun z => n (by rw [z]; exact h)
 rw [q08 nb]; exact e
theorem Kp.same {H H' : Hp} (a : Kp [] H H') : Same H H' := fun b o e => a b o e (by simp)
theorem Kp.free {H H' : Hp} (e : Kp [] H H') {l : Addr} (h : H' l = none) : H l = none := e.same.free h
theorem Kp.get {ex : List Addr} {H H' : Hp} (e : Kp ex H H') {a : Addr} {o : HO} (h : H a = some o) (n : a ∉ ex) : H' a = some o := e a o h n
theorem nEm {a : Addr} : a ∉ ([] : List Addr) := by simp
theorem q1r {H : Hp} {a b : Addr} {o : HO} (h : upd H a o b = none) : b ≠ a ∧ H b = none := by
 by_cases e : b = a
 ·subst e; rw [q05] at h; cases h
 ·rw [q08 e] at h; exact ⟨e, h⟩
def Scr (K : PySem.W.Frag) (H : Hp) (a : Addr) (ns : List Int) : Prop := (∃ o, H a = some (.frz o (.lst (ns.map V.int)))) ∨
 ∃ (o : Obj) (its : Array Value) (n : Nat), K.lookup a = some o ∧ o.cls = .type "list" ∧ o.dict = none ∧ o.data = .seq its n ∧ its.size ≤ sizeLine ∧ Vals (ns.map V.int) its.toList
theorem Scr.sq {K : PySem.W.Frag} {H : Hp} {a : Addr} {ns : List Int} (h : Scr K H a ns) : SqL K H a (ns.map V.int) := by
 rcases h with h | h
 ·exact .inl (.inr h)
 ·exact .inr h
theorem Scr.of {K : PySem.W.Frag} {H : Hp} {a : Addr} {ns : List Int} (hO : Only H) (h : SqL K H a (ns.map V.int)) : Scr K H a ns := by
 rcases h with (h | h) | h
 ·rcases hO a with z | ⟨o, xs, z⟩
  ·rw [h] at z; cases z
  ·rw [h] at z; cases z
 ·exact .inl h
 ·exact .inr h
def qjv : Option HO → Prop
 | some (.frz _ _) => False
 | _ => True
theorem Scr.keep {K : PySem.W.Frag} {H H' : Hp} {ex : List Addr} {a : Addr} {ns : List Int} (h : Scr K H a ns) (kp : Kp ex H H') (hex : ∀ b ∈ ex, qjv (H b)) : Scr K H' a ns := by
 rcases h with ⟨o, h⟩ | h
 ·exact .inl ⟨o, kp.get h fun z => by have := hex a z; rw [h] at this; exact this⟩
 ·exact .inr h
theorem Scr.same {K : PySem.W.Frag} {H H' : Hp} {a : Addr} {ns : List Int} (h : Scr K H a ns) (kp : Kp [] H H') : Scr K H' a ns := h.keep kp (by simp)
theorem qjl {α : Type} {xs : List α} {i : Int} (h0 : 0 ≤ i) (h1 : i < xs.length) : ∃ v, atI xs i = some v ∧ xs[i.toNat]? = some v := by
 have h : i.toNat < xs.length := by omega
 refine ⟨xs[i.toNat], ?_, List.getElem?_eq_getElem h⟩
 have e : ((i.toNat : Nat) : Int) = i := by omega
 have := q07 (xs := xs) (j := i.toNat) (v := xs[i.toNat]) (List.getElem?_eq_getElem h)
 rw [e] at this
 exact this
theorem abs {H : Hp} {P : Hp → Prop} (A : Hp → Prop) (ha : A H) (h : ∀ H', A H' → P H') : P H := h H ha
theorem q4m {K : PySem.W.Frag} {β : Type} (f : β → V) (ys : List β) {i : Int} {H : Hp} {Q : VK} {p : Addr} (hp : H p = none) (h0 : 0 ≤ i) (h1 : i < ys.length) (q : ∀ y H', ys[i.toNat]? = some y → Kp [] H H' → Q (f y) H') :
  rIxL K (.ref p) (.int i) (upd H p (.lst (ys.map f))) Q := by
 have h : i.toNat < ys.length := by omega
 have e : ((i.toNat : Nat) : Int) = i := by omega
 have hy : ys[i.toNat]? = some ys[i.toNat] := List.getElem?_eq_getElem h
 have := q07 (xs := ys.map f) (j := i.toNat) (v := f ys[i.toNat]) (by rw [List.getElem?_map, hy]; rfl)
 rw [e] at this
 exact ⟨p, _, i, _, rfl, rfl, SqL.of q05, this, q _ _ hy (Kp.new hp)⟩
theorem iteD {c A B : Prop} [Decidable c] (hc : c) (h : A) : if decide c = true then A else B := by
 rw [decide_eq_true hc]
 exact iteT h
theorem q1o {c A B : Prop} [Decidable c] (hc : ¬ c) (h : B) : if decide c = true then A else B := by
 rw [decide_eq_false hc]
 exact iteF h
theorem q97 (n : Nat) : ((List.range n).all fun _ => true) = true := by simp
theorem qcs {n : Nat} {i : Int} {σ : St} {H : Hp} {k : St → Hp → Prop} (h : ∀ c, c = i → qc4 n (.int c) σ H k) : qc4 n (.int i) σ H k := h i rfl
theorem q53 (x m n : Int) (hm : 0 < m) (hn : 0 < n) : 0 ≤ x % m % n ∧ x % m % n < n := ⟨Int.emod_nonneg _ (by omega), Int.emod_lt_of_pos _ hn⟩
end L2
end
section
namespace L2
open PySem PySem.Spec PyProof.Rows
def Tr (h B : Heap) (e : Addr) (cls : Value) (dd : Option Addr) (fl : Value) : Prop :=
 ∃ (oe : Obj) (vs : Array Value) (T : Addr) (oT : Obj) (ts : Array Value), h.get? e = some oe ∧ oe.cls = cls ∧ oe.dict = dd ∧ oe.data = .fields vs ∧ vs[1]? = some (.ref T) ∧ B.get? T = none ∧ T ≠ e ∧ h.get? T = some oT ∧ oT.data = .fields ts ∧ ts[3]? = some fl
theorem q5h (o : Obj) (f : Array Value → Array Value) : (o.mapFields f).dict = o.dict := by
 obtain ⟨c, d, dt, sl⟩ := o
 cases dt <;> rfl
section
variable {M : Model} {A : Around} {E : Value → Shared → Prop} {s : Shared} {B : Heap} {env : Env} {outer l : List Env} {L e : Addr}
theorem q96 {h h' : Heap} (k : ∀ b o, h.get? b = some o → (∀ vs, o.data ≠ .fields vs) → h'.get? b = some o) : h.UpToSlots h' := fun b o q n => ⟨o.slots, k b o q n⟩
theorem qfm {oe : Obj} {vs : Array Value} {head : Value} {hadNext : Bool} {Q : Unit → Shared → Prop} (hfr : A.frames = some (env :: outer)) (hl : s.heap.FunFrames B (env :: outer)) (hf : env.frame = some L) (he : s.heap.get? e = some oe) (hkb : B.StaysIn s.heap)
  (hen : B.get? e = none) (hd : oe.data = .fields vs) (hsz : 1 < vs.size)
  (k : ∀ h', B.StaysIn h' → h'.FunFrames B (env :: outer) → Tr h' B e oe.cls oe.dict (rawInt L) → s.heap.UpToSlots h' → Q () { s with heap := h' }) :
  wpAny M A (do let a ← frameOf env; let pl ← entryPlaceOf L hadNext; let b ← EntryCells.newEntry head a .none (rawInt L) .none pl; setField (.ref e) 1 b) Q E s := by
 refine wpAny_bind (wpAny_frameOf_fun hfr hl hf fun g hg => wpAny_bind (wpAny_entryPlaceOf fun pl hp => ?_))
 have en : e ∉ (env :: outer).filterMap (·.frame) := fun z => by
  obtain ⟨_, o, ho, hn⟩ := hl.mem z
  rw [he] at ho
  cases ho
  exact hn vs hd
 have e1 : g.get? e = some oe := (hg.2.1 e en).trans he
 have k1 : B.StaysIn g := fun b o q => (hg.2.1 b fun z => by rw [(hl.mem z).1] at q; cases q).trans (hkb b o q)
 unfold EntryCells.newEntry newFields
 refine wpAny_bind (wpAny_newObj_type ?_ (hp.sizeOk5 _ _ _ _ _))
 generalize htb : ([head, Value.ref L, Value.none, rawInt L, Value.none] ++ (if pl.isEmpty then List.replicate 6 Value.none else pl)).toArray = tb
 have t3 : tb[3]? = some (rawInt L) := by
  rw [← htb]
  first | (simp; done) | (rcases hp with rfl | ⟨_, _, _, _, _, _, _, rfl⟩ <;> simp)
 have ne : g.objs.size ≠ e := Nat.ne_of_gt (Heap.lt_size e1)
 have d3 := Obj.data_mapFields hd (·.setIfInBounds 1 (Value.ref g.objs.size))
 refine wpAny_setField (Heap.get?_push_of_some _ e1) hd hsz ?_
 have kept : ∀ b o, b ≠ e → g.get? b = some o → ((g.push { cls := .type "traceback", dict := none, data := .fields tb }).update e (Obj.mapFields (·.setIfInBounds 1 (Value.ref g.objs.size)))).get? b = some o := fun b o nb q =>
  (Heap.get?_update_other _ _ (Ne.symm nb)).trans (Heap.get?_push_of_some _ q)
 have nrec : ∀ b o, s.heap.get? b = some o → (∀ ws, o.data ≠ .fields ws) → b ≠ e := fun b o q n z => by
  rw [z, he] at q
  cases q
  exact n vs hd
 have up : ∀ b o, s.heap.get? b = some o → (∀ ws, o.data ≠ .fields ws) → ∃ sl, ((g.push { cls := .type "traceback", dict := none, data := .fields tb }).update e (Obj.mapFields (·.setIfInBounds 1 (Value.ref g.objs.size)))).get? b = some { o with slots := sl } := fun b o q n => by
  obtain ⟨sl, z⟩ := hg.2.2 b o q
  exact ⟨sl, kept b _ (nrec b o q n) z⟩
 refine k _ (fun b o q => kept b o (fun z => by rw [z, hen] at q; cases q) (k1 b o q)) (hl.of_keeps fun b o q n => ?_) ?_ up
 ·obtain ⟨sl, z⟩ := up b o q n
  exact ⟨_, z, rfl⟩
 ·refine ⟨_, _, g.objs.size, _, tb, Heap.get?_update_self _ (Heap.get?_push_of_some _ e1) (Obj.isFreed_of_fields d3), Obj.cls_mapFields _ _, q5h _ _, d3, by simp [hsz], k1.fresh, ne, (Heap.get?_update_other _ _ (Ne.symm ne)).trans (Heap.get?_push_size g rfl), rfl, t3⟩
theorem qga {cls fl : Value} {dd fr : Option Addr} {Q : Unit → Shared → Prop} (hkb : B.StaysIn s.heap) (hl : s.heap.FunFrames B l) (ht : Tr s.heap B e cls dd fl)
  (k : ∀ h', B.StaysIn h' → h'.FunFrames B l → Tr h' B e cls dd (fr.elim .none fun f => rawInt f) → s.heap.UpToSlots h' → Q () { s with heap := h' }) : wpAny M A (setFlight (.ref e) fr) Q E s := by
 obtain ⟨oe, vs, T, oT, ts, he, hc, hdd, hd, h1, hT0, nT, hT, dT, h3⟩ := ht
 have hsz : 3 < ts.size := (Array.getElem?_eq_some_iff.mp h3).1
 unfold setFlight
 refine wpAny_bind (wpAny_field he hd h1 ?_)
 rw [if_pos (show (Value.ref T != Value.none) = true by simp)]
 have oth : ∀ b, b ≠ T → (s.heap.update T (Obj.mapFields (·.setIfInBounds 3 (fr.elim Value.none fun f => rawInt f)))).get? b = s.heap.get? b := fun b nb => Heap.get?_update_other _ _ (Ne.symm nb)
 have nrec : ∀ b o, s.heap.get? b = some o → (∀ ws, o.data ≠ .fields ws) → b ≠ T := fun b o q n z => by
  rw [z, hT] at q
  cases q
  exact n ts dT
 refine wpAny_setField hT dT hsz (k _ (fun b o q => (oth b fun z => by rw [z, hT0] at q; cases q).trans (hkb b o q)) (hl.of_keeps fun b o q n => ⟨o, (oth b (nrec b o q n)).trans q, rfl⟩) ?_ (q96 fun b o q n => (oth b (nrec b o q n)).trans q))
 have d3 := Obj.data_mapFields dT (·.setIfInBounds 3 (fr.elim Value.none fun f => rawInt f))
 exact ⟨oe, vs, T, _, _, (oth e (Ne.symm nT)).trans he, hc, hdd, hd, h1, hT0, nT, Heap.get?_update_self _ hT (Obj.isFreed_of_fields d3), d3, by simp [hsz]⟩
theorem qk1 {cls fl : Value} {dd : Option Addr} {Q : Unit → Shared → Prop} (hfr : A.frames = some (env :: outer)) (hf : env.frame = some L) (hkb : B.StaysIn s.heap) (hl : s.heap.FunFrames B (env :: outer)) (hen : B.get? e = none) (ht : Tr s.heap B e cls dd fl)
  (k : ∀ h', B.StaysIn h' → h'.FunFrames B (env :: outer) → Tr h' B e cls dd (rawInt L) → s.heap.UpToSlots h' → Q () { s with heap := h' }) : wpAny M A (noteFrame (.ref e) env) Q E s := by
 obtain ⟨oe, vs, T, oT, ts, he, hc, hdd, hd, h1, hT0, nT, hT, dT, h3⟩ := id ht
 unfold noteFrame
 simp only [hf]
 refine wpAny_bind (wpAny_field he hd h1 ?_)
 rw [if_pos (show (Value.ref T != Value.none) = true by simp)]
 refine wpAny_bind (wpAny_field hT dT h3 ?_)
 by_cases z : fl = rawInt L
 case neg =>
  rw [if_neg (show ¬ ((fl == rawInt L) = true) from fun y => z (beq_iff_eq.mp y))]
  have hsz : 3 < ts.size := (Array.getElem?_eq_some_iff.mp h3).1
  refine wpAny_bind (wpAny_setField hT dT hsz ?_)
  have oth : ∀ b, b ≠ T → (s.heap.update T (Obj.mapFields (·.setIfInBounds 3 Value.none))).get? b = s.heap.get? b := fun b nb => Heap.get?_update_other _ _ (Ne.symm nb)
  have nrec : ∀ b o, s.heap.get? b = some o → (∀ ws, o.data ≠ .fields ws) → b ≠ T := fun b o q n z => by
   rw [z, hT] at q
   cases q
   exact n ts dT
  have up1 : s.heap.UpToSlots (s.heap.update T (Obj.mapFields (·.setIfInBounds 3 Value.none))) := q96 fun b o q n => (oth b (nrec b o q n)).trans q
  subst hc hdd
  exact qfm hfr (hl.of_keeps fun b o q n => ⟨o, (oth b (nrec b o q n)).trans q, rfl⟩) hf ((oth e (Ne.symm nT)).trans he) (fun b o q => (oth b fun z => by rw [z, hT0] at q; cases q).trans (hkb b o q)) hen hd (Array.getElem?_eq_some_iff.mp h1).1
   fun h' a b c d => k h' a b c (up1.trans d)
 case pos =>
  subst z
  rw [if_pos (show (rawInt L == rawInt L) = true by simp)]
  exact wpAny_pure (k s.heap hkb hl ht (.refl _))
theorem qie {h : Heap} {cls : Value} {args : List Value} {Q : Unit → Shared → Prop} (hfr : A.frames = some (env :: outer)) (hf : env.frame = some L) (hkb : B.StaysIn h) (hl : h.FunFrames B (env :: outer)) (hx : Heap.MadeExcOf h s.heap e cls args)
  (k : ∀ h', B.StaysIn h' → h'.FunFrames B (env :: outer) → Tr h' B e cls none (rawInt L) → s.heap.UpToSlots h' → Q () { s with heap := h' }) : wpAny M A (noteFrame (.ref e) env) Q E s := by
 obtain ⟨t, he, _, _⟩ := hx.there
 have hen : B.get? e = none := by
  cases q : B.get? e with
  | none => rfl
  | some o => have := hkb e o q; rw [hx.new] at this; cases this
 unfold noteFrame
 simp only [hf]
 refine wpAny_bind (wpAny_field he rfl (x := .none) rfl ?_)
 rw [if_neg (by decide)]
 exact qfm hfr (hl.of_keeps fun b o q _ => ⟨o, hx.keeps b o q, rfl⟩) hf he (fun b o q => hx.keeps b o (hkb b o q)) hen rfl (by show 1 < 6; decide) k
end
end L2
end
section
namespace L2
open PySem PySem.Spec PyProof.Rows
structure FnCx (X : Cx) : Prop where
 stk : X.stack = X.env :: X.outer
 fr : X.env.frame = some X.env.locals
 ex : X.ex = []
 fn : ∀ x, X.fn x = true
structure Cov (X : Cx) (pins : List (Addr × Obj)) (H : Hp) (B : Heap) : Prop where
 c1 : ∀ b o, X.s₀.heap.get? b = some o → X.H₀ b = none → b ∉ X.fs → B.get? b = some o
 c2 : ∀ b, H b ≠ none → ∃ o, B.get? b = some o
 c3 : ∀ x c, X.env.cells.lookup x = some c → ∃ o, B.get? c = some o
 c4 : ∀ p ∈ X.pn ++ pins, B.get? p.1 = some p.2
 c5 : ∀ b o, X.s₀.heap.get? b = some o → b ∉ X.fs → ∃ o', B.get? b = some o'
section
variable {X : Cx} {pins : List (Addr × Obj)} {σ : St} {H : Hp} {s : Shared} {B h' : Heap}
theorem Inv.moved (fx : FnCx X) (I : Inv X pins σ H s) (C : Cov X pins H B) (k0 : B.StaysIn s.heap) (k1 : B.StaysIn h') (up : s.heap.UpToSlots h') {t : Nat} : Inv X pins σ H { s with heap := h', toks := t } := by
 have cellK : ∀ x c v, X.env.cells.lookup x = some c → s.heap.IsCell c v → h'.IsCell c v := fun x c v e ⟨o, ho, hd⟩ => by
  obtain ⟨o', hb⟩ := C.c3 x c e
  have := k0 c o' hb
  rw [ho] at this
  cases this
  exact ⟨o, k1 c _ hb, hd⟩
 have fsl : ∀ b o, s.heap.get? b = some o → b ∈ X.fs → ∃ sl, h'.get? b = some { o with slots := sl } := fun b o e hb => by
  obtain ⟨_, o2, ho2, hn⟩ := I.funs.mem hb
  rw [e] at ho2
  cases ho2
  exact up b o e hn
 refine ⟨I.ok, I.os, I.bare, ⟨fun b o e n hb hx => k1 b o (C.c1 b o e n hb), fun b o e n hb hx => ?_, I.base.free, fun b o e hx => ?_, I.base.tups, I.base.frzs, I.base.tbls⟩, ?_, fun x c e => ?_, I.free, I.freeC, fun p hp => ?_, fun a o e => ?_, I.len⟩
 ·obtain ⟨sl, e1⟩ := I.base.slot b o e n hb hx
  obtain ⟨sl2, e2⟩ := fsl b _ e1 hb
  exact ⟨sl2, e2⟩
 ·by_cases hb : b ∈ X.fs
  ·obtain ⟨o1, e1⟩ := I.base.there b o e hx
   obtain ⟨sl2, e2⟩ := fsl b o1 e1 hb
   exact ⟨_, e2⟩
  ·obtain ⟨o', z⟩ := C.c5 b o e hb
   exact ⟨o', k1 b o' z⟩
 ·obtain ⟨m, hn, hl⟩ := I.loc
  refine ⟨m, up.ns hn, fun i x v e1 e2 e3 => ?_⟩
  obtain ⟨u, r, lk⟩ := hl i x v e1 e2 e3
  refine ⟨u, r, ?_⟩
  rcases lk with lk | ⟨k, c, e, z⟩
  ·exact .inl lk
  ·exact .inr ⟨k, c, e, cellK x c _ e z⟩
 ·obtain ⟨v, z⟩ := I.cell x c e
  exact ⟨v, cellK x c v e z⟩
 ·obtain ⟨e, n, ne, nf, d⟩ := I.pin p hp
  exact ⟨k1 _ _ (C.c4 p hp), n, ne, nf, d⟩
 ·refine (I.hok a o e).stay (fun b u hb q => ?_) (fun _ q => q) fun _ _ q => q
  have hn : H b ≠ none := by
   rcases hb with z | z
   ·rw [z, e]; simp
   ·rw [z]; simp
  obtain ⟨o', z⟩ := C.c2 b hn
  have := k0 b o' z
  rw [q] at this
  cases this
  exact k1 b _ z
end
structure XF (X : Cx) (pins : List (Addr × Obj)) (ea : Addr) (cls : Value) (fl : Value) (H : Hp) (s : Shared) (B : Heap) : Prop where
 cov : Cov X pins H B
 new : B.get? ea = none
 st : B.StaysIn s.heap
 fun_ : s.heap.FunFrames B X.stack
 tr : Tr s.heap B ea cls none fl
def XSt (X : Cx) (pins : List (Addr × Obj)) (ea : Addr) (cls : Value) (H : Hp) (s : Shared) : Prop :=
 (∃ B h args, Cov X pins H B ∧ Heap.MadeExcOf h s.heap ea cls args ∧ B.StaysIn h ∧ h.FunFrames B X.stack) ∨ ∃ B fl, XF X pins ea cls fl H s B ∧ (fl = fl ∨ fl = rawInt X.env.locals)
abbrev XKs := St → Value → Hp → Prop
def XP (X : Cx) (pins : List (Addr × Obj)) (xk : XKs) (e : Value) (s : Shared) : Prop := ∃ ea cls σ H, e = .ref ea ∧ Inv X pins σ H s ∧ XSt X pins ea cls H s ∧ xk σ cls H
section
variable {X : Cx} {pins : List (Addr × Obj)} {σ : St} {H : Hp} {s : Shared} {ea : Addr} {cls fl : Value} {A : Around} {E : Value → Shared → Prop} {B : Heap}
theorem XSt.note {Q : Unit → Shared → Prop} (fx : FnCx X) (I : Inv X pins σ H s) (S : XSt X pins ea cls H s) (hA : A.frames = some X.stack)
  (k : ∀ h' B, Inv X pins σ H { s with heap := h' } → XF X pins ea cls (rawInt X.env.locals) H { s with heap := h' } B → Q () { s with heap := h' }) : wpAny (model X.prog X.w) A (noteFrame (.ref ea) X.env) Q E s := by
 rw [fx.stk] at hA
 rcases S with ⟨B, h, args, C, hx, st, fu⟩ | ⟨B, fl, F, hfl⟩
 ·rw [fx.stk] at fu
  have hen : B.get? ea = none := by
   cases q : B.get? ea with
   | none => rfl
   | some o => have := st ea o q; rw [hx.new] at this; cases this
  exact qie hA fx.fr st fu hx fun h' a b c d => k h' B (I.moved (t := s.toks) fx C (fun b o q => hx.keeps b o (st b o q)) a d) ⟨C, hen, a, by rw [fx.stk]; exact b, c⟩
 ·have fu := F.fun_
  rw [fx.stk] at fu
  exact qk1 hA fx.fr F.st fu F.new F.tr fun h' a b c d => k h' B (I.moved (t := s.toks) fx F.cov F.st a d) ⟨F.cov, F.new, a, by rw [fx.stk]; exact b, c⟩
theorem XF.flight {fr : Option Addr} {Q : Unit → Shared → Prop} (fx : FnCx X) (I : Inv X pins σ H s) (F : XF X pins ea cls fl H s B)
  (k : ∀ h', Inv X pins σ H { s with heap := h' } → XF X pins ea cls (fr.elim .none fun f => rawInt f) H { s with heap := h' } B → Q () { s with heap := h' }) : wpAny (model X.prog X.w) A (setFlight (.ref ea) fr) Q E s :=
 qga F.st F.fun_ F.tr fun h' a b c d => k h' (I.moved (t := s.toks) fx F.cov F.st a d) ⟨F.cov, F.new, a, b, c⟩
theorem XF.xst (F : XF X pins ea cls (rawInt X.env.locals) H s B) : XSt X pins ea cls H s := .inr ⟨B, _, F, .inr rfl⟩
theorem XP.unpinned {pl : List (Addr × Obj)} {xk : XKs} {e : Value} (h : XP X (pins ++ pl) xk e s) : XP X pins xk e s := by
 obtain ⟨ea, cls, σ, H, rfl, I, S, q⟩ := h
 have cv : ∀ {B : Heap}, Cov X (pins ++ pl) H B → Cov X pins H B := fun C => ⟨C.c1, C.c2, C.c3, fun p hp => C.c4 p (by
  rcases List.mem_append.mp hp with z | z
  ·exact List.mem_append_left _ z
  ·exact List.mem_append_right _ (List.mem_append_left _ z)), C.c5⟩
 refine ⟨ea, cls, σ, H, rfl, I.unpinned, ?_, q⟩
 rcases S with ⟨B, h, args, C, r⟩ | ⟨B, fl, F, z⟩
 ·exact .inl ⟨B, h, args, cv C, r⟩
 ·exact .inr ⟨B, fl, ⟨cv F.cov, F.new, F.st, F.fun_, F.tr⟩, z⟩
theorem XP.passes {xk : XKs} (fx : FnCx X) (hA : X.A.frames = some X.stack) : PassesOwn (model X.prog X.w) X.A X.env (XP X pins xk) := by
 intro e s' h
 obtain ⟨ea, cls, σ, H, rfl, I, S, q⟩ := h
 refine XSt.note fx I S hA fun h' B I1 F1 => ?_
 unfold cameBackBy
 obtain ⟨oe, vs, T, oT, ts, he, hc, hdd, hd, h1, r⟩ := id F1.tr
 refine wpAny_bind (wpAny_field he hd h1 ?_)
 rw [if_neg (show ¬ ((Value.ref T == Value.none) = true) by simp)]
 rw [fx.fr]
 exact F1.flight fx I1 fun h2 I2 F2 => ⟨ea, cls, σ, H, rfl, I2, F2.xst, q⟩
end
def CX1 (P : Program) (w : World) : CXT := fun outer H s E e s' => ∃ ea cls H' B, e = .ref ea ∧ s'.os = s.os ∧ AllBare s'.gens ∧ Un (frs outer) [] H H' s.heap s'.heap ∧ HOk P w H' s'.heap ∧ B.get? ea = none ∧ B.StaysIn s'.heap ∧ s'.heap.FunFrames B outer ∧ Tr s'.heap B ea cls none .none ∧
 (∀ b o, s.heap.get? b = some o → H b = none → b ∉ frs outer → B.get? b = some o) ∧ (∀ b, H' b ≠ none → ∃ o, B.get? b = some o) ∧ (∀ b o, s.heap.get? b = some o → b ∉ frs outer → ∃ o', B.get? b = some o') ∧ E cls none H'
theorem FnOk.lift {P : Program} {w : World} {K : PySem.W.Frag} {mg : Str → Option Value} {base : Heap} {CX : CXT} {k : Nat} {f : Addr} {fd : FuncData} {ps : List Str} {sp : Sp} (F : FnOk P w K mg base CX0 k f fd ps sp) : FnOk P w K mg base CX k f fd ps sp :=
 ⟨F.len, fun A outer s H args us vs Q E hr e0 hb r hsp => codeAny_mono (F.run A outer s H args us vs Q E hr e0 hb r hsp) fun r s' h => by
  cases r with
  | error e => exact False.elim h
  | ok f => cases f <;> exact h⟩
section
variable {X : Cx} {pins : List (Addr × Obj)} {σ : St} {H : Hp} {s s' : Shared} {xk : XKs}
theorem Inv.nofsL (I : Inv X pins σ H s) (fx : FnCx X) {b : Addr} (h1 : b ≠ X.env.locals) (h2 : b ∉ X.fs) : b ∉ frs X.stack := fun z => by
 rcases List.mem_cons.mp (I.stkSub b z) with q | q
 ·exact h1 q
 ·exact h2 q
theorem CX1.xp {E : XK} {e : Value} (fx : FnCx X) (I : Inv X pins σ H s) (h : CX1 X.prog X.w X.stack H s E e s') (hE : ∀ cls H', E cls none H' → xk σ cls H') : XP X pins xk e s' := by
 obtain ⟨ea, cls, H', B, rfl, os, bare, un, hok, new, st, fu, tr, d1, d2, d3, q⟩ := h
 have I' : Inv X pins σ H' s' := I.call' (ch := []) os un hok bare fun b hb => nomatch hb
 have neL : ∀ b o, X.s₀.heap.get? b = some o → b ≠ X.env.locals := fun b o z => Nat.ne_of_lt (Nat.lt_of_lt_of_le (Heap.lt_size z) I.ok.above)
 have nx : ∀ b : Addr, b ∉ X.ex := fun b => by rw [fx.ex]; simp
 refine ⟨ea, cls, σ, H', rfl, I', .inr ⟨B, .none, ⟨⟨fun b o z n hb => ?_, d2, fun x c z => ?_, fun p hp => ?_, fun b o z hb => ?_⟩, new, st, fu, tr⟩, .inl rfl⟩, hE cls H' q⟩
 ·exact d1 b o (I.base.keep b o z n hb (nx b)) (I.base.free b o z n (nx b)) (I.nofsL fx (neL b o z) hb)
 ·obtain ⟨v, o, ho, _⟩ := I.cell x c z
  refine ⟨o, d1 c o ho (I.freeC x c z) (I.nofsL fx (I.cne x c z) fun hb => ?_)⟩
  obtain ⟨_, o2, ho2, _⟩ := I.ok.funs.mem hb
  exact absurd (Nat.lt_of_lt_of_le (Heap.lt_size ho2) (I.ok.cab x c (fx.fn x) z)) (Nat.lt_irrefl _)
 ·obtain ⟨z, n, ne, nf, _⟩ := I.pin p hp
  exact d1 _ _ z n (I.nofsL fx ne nf)
 ·obtain ⟨o1, z1⟩ := I.base.there b o z (nx b)
  exact d3 b o1 z1 (I.nofsL fx (neL b o z) hb)
theorem XP.leaves {E : XK} {e : Value} (fx : FnCx X) (hA : X.A.frames = some X.stack) (hxk : ∀ σ cls H, xk σ cls H → E cls none H) (h : XP X pins xk e s') :
  wpAny (model X.prog X.w) X.A (leaving X.env e) (fun _ s'' => CX1 X.prog X.w X.outer X.H₀ X.s₀ E e s'') (fun e' s'' => CX1 X.prog X.w X.outer X.H₀ X.s₀ E e' s'') s' := by
 obtain ⟨ea, cls, σ, H, rfl, I, S, q⟩ := h
 unfold leaving
 refine wpAny_bind (XSt.note fx I S hA fun h1 B I1 F1 => F1.flight fx I1 fun h2 I2 F2 => ?_)
 have fu := F2.fun_
 rw [fx.stk] at fu
 have un := I2.base
 rw [fx.ex] at un
 exact ⟨ea, cls, H, B, rfl, I2.os, I2.bare, un, I2.hok, F2.new, F2.st, fu.2.2, F2.tr, fun b o z n hb => F2.cov.c1 b o z n hb, F2.cov.c2, fun b o z hb => F2.cov.c5 b o z hb, hxk σ cls H q⟩
end
abbrev TEx := XKs → St → Hp → VK → Prop
abbrev TX := Ends → XKs → St → Hp → Prop
def PEX (X : Cx) (e : Expr) (t : TEx) : Prop :=
 ∀ (pins : List (Addr × Obj)) (s : Shared) (σ : St) (H : Hp) (Q : VK) (xk : XKs), Inv X pins σ H s → t xk σ H Q → wpAny (model X.prog X.w) X.A (eval e X.env) (EP X pins σ Q) (XP X pins xk) s
def PSX (X : Cx) (st : Stmt) (t : TX) : Prop :=
 ∀ (pins : List (Addr × Obj)) (s : Shared) (σ : St) (H : Hp) (D : Ends) (xk : XKs), Inv X pins σ H s → t D xk σ H → wpAny (model X.prog X.w) X.A (exec st X.env) (SP X pins D) (XP X pins xk) s
def PSXs (X : Cx) (st : List Stmt) (t : TX) : Prop :=
 ∀ (pins : List (Addr × Obj)) (s : Shared) (σ : St) (H : Hp) (D : Ends) (xk : XKs), Inv X pins σ H s → t D xk σ H → wpAny (model X.prog X.w) X.A (execs st X.env) (SP X pins D) (XP X pins xk) s
section
variable {X : Cx} {st : Stmt} {rest : List Stmt} {e : Expr} {pos : Pos}
theorem q2q {t : TS} (h : PS X.nox st t) : PSX X st (fun D _ => t D) := fun pins s σ H D xk I hw => wpAny_mono (h pins s σ H D (I.wish _) hw) (fun _ _ q => q.unwish) fun _ _ z => z.elim
theorem q58 {ss : List Stmt} {t : TS} (h : PSs X.nox ss t) : PSXs X ss (fun D _ => t D) := fun pins s σ H D xk I hw => wpAny_mono (h pins s σ H D (I.wish _) hw) (fun _ _ q => q.unwish) fun _ _ z => z.elim
def qkg (t u : TX) : TX := fun D xk σ H => t { D with nx := u D xk } xk σ H
theorem q15 {t u : TX} (h1 : PSX X st t) (h2 : PSXs X rest u) : PSXs X (st :: rest) (qkg t u) := by
 intro pins s σ H D xk I h
 refine wpAny_execs_cons (thn (h1 pins s σ H { D with nx := u D xk } xk I h) fun f s1 q => ?_)
 cases f with
 | next =>
  obtain ⟨σ', H', I', q⟩ := q
  exact h2 pins s1 σ' H' D xk I' q
 | ret v => exact q
 | brk => exact q
 | cont => exact q
theorem q1m {t : TX} (h1 : PSX X st t) : PSXs X [st] t := by
 intro pins s σ H D xk I h
 refine wpAny_execs_cons (thn (h1 pins s σ H D xk I h) fun f s1 q => ?_)
 cases f with
 | next => exact wpAny_execs_nil q
 | ret v => exact q
 | brk => exact q
 | cont => exact q
theorem qen {t : TEx} (he : PEX X e t) (hs : swapsWith e none pos.line X.env = pure false := by rfl) : PSX X (.Expr e pos) (fun D xk σ H => t xk σ H fun _ H1 => D.nx σ H1) := by
 intro pins s σ H D xk I h
 exact wpAny_Expr_any (thn (he pins s σ H _ xk I h) fun v s1 ⟨x, H1, I1, r1, q1⟩ => ⟨σ, H1, I1, q1⟩) I.quiet hs
theorem q6v {t : TEx} (he : PEX X e t) : PSX X (.Return (some e) pos) (fun D xk σ H => t xk σ H D.rt) := by
 intro pins s σ H D xk I h
 exact wpAny_Return_some (thn (he pins s σ H _ xk I h) fun v s1 ⟨x, H1, I1, r1, q1⟩ => ⟨x, σ, H1, I1, r1, q1⟩)
theorem q7i {c : Expr} {a b : List Stmt} {tc : TT} {t u : TX} (hc : PT X.nox c tc) (ha : PSXs X a t) (hb : PSXs X b u) : PSX X (.If c a b pos) (fun D xk σ H => tc σ H fun k H1 => if k = true then t D xk σ H1 else u D xk σ H1) := by
 intro pins s σ H D xk I h
 refine wpAny_If (wpAny_mono (hc pins s σ H _ (I.wish _) h) (fun k s1 ⟨H1, I1, q⟩ => ?_) fun _ _ z => z.elim)
 cases k with
 | true => exact ha pins s1 σ H1 D xk I1.unwish q
 | false => exact hb pins s1 σ H1 D xk I1.unwish q
end
def qi0 (sp : Sp) (t : TA) : TEx := fun xk σ H Q => t σ H fun vs H1 => sp (vs ++ []) H1 Q fun cls _ H2 => xk σ cls H2
section
variable {X : Cx} {k : Nat} {ps : List Str} {sp : Sp} {x : Str} {p pos : Pos} {e : Expr} {es : List Expr} {t : TA}
theorem q8i {pins : List (Addr × Obj)} {σ : St} {H : Hp} {s : Shared} {Q : VK} {us : List Value} {vs : List V} {f : Addr} {fd : FuncData} {xk : XKs} (F : FnOk X.prog X.w X.K X.mg X.base (CX1 X.prog X.w) k f fd ps sp) (hr : Room k X.A) (hb : q48 X.K fd ps []) (fx : FnCx X)
  (I : Inv X pins σ H s) (r : Vals vs us) (h : sp (vs ++ []) H Q fun cls _ H2 => xk σ cls H2) : wpAny (model X.prog X.w) X.A (call (.ref f) us) (EP X pins σ Q) (XP X pins xk) s := by
 have r2 : Vals (vs ++ []) (us ++ []) := r.append .nil
 have hl : (us ++ []).length = ps.length := by rw [← r2.length]; exact F.len _ _ _ _ h
 refine wpAny_call (codeAny_mono (F.run X.A X.stack s H ⟨us, []⟩ (us ++ []) (vs ++ []) Q _ hr I.env0 (hb s us I.kIn hl) r2 h) fun r s' hq => ?_)
 cases r with
 | error e => exact CX1.xp (E := fun cls _ H2 => xk σ cls H2) fx I hq fun cls H' z => z
 | ok fl =>
  cases fl with
  | ret u => exact I.after hq
  | next => exact False.elim hq
  | brk => exact False.elim hq
  | cont => exact False.elim hq
theorem qhz (fx : FnCx X) (D : Df X.prog X.w X.K X.mg X.base (CX1 X.prog X.w) k x ps sp) (hr : Room k X.A) (ha : PA X.nox (e :: es) t) (hg : Gl X x := by rfl) (hdb : (x == ("__debug__" : Str)) = false := by decide)
  (he : starEach (e :: es) X.env = (false, eval e X.env) :: starEach es X.env := by rfl) (hpl : (backTo pos (starEach es X.env)).any (·.1) = false := by rfl) : PEX X (.Call (.Name x p) (e :: es) [] pos) (qi0 sp t) := by
 obtain ⟨f, fd, hm, hk, hb, F⟩ := D.ex
 intro pins s σ H Q xk I h
 refine wpAny_Call_Name_kw (q59 I hg hm ?_ hdb)
 refine PySem.W.callWith_K (h₀ := X.base) I.ok.mod.kin hk (wpAny_mono (ha pos pins s σ H _ (I.wish _) h) (fun us s1 ⟨vs, H1, I1, r, q⟩ => ⟨I1.unwish.kIn, ?_⟩) fun _ _ z => z.elim) he hpl
 exact q8i F hr hb fx I1.unwish r q
end
section
variable {P : Program} {w : World} {K : PySem.W.Frag} {mg : Str → Option Value} {base : Heap}
theorem q3n {CX : CXT} {N : List Str} {qual : Str} {scope : Scope} {f : Addr} {cd : Value} {A : Around} {outer : List Env} {s : Shared} {H : Hp} {E : XK} : FnCx (cxOf CX P w K mg base N qual scope f cd A outer s H E) := ⟨rfl, rfl, rfl, fun _ => rfl⟩
theorem Fun.okX {x qual : Str} {st : Stmt} {f : Addr} {fd : FuncData} {N ps : List Str} {k : Nat} {sp : Sp} (F : Fun K x qual st f fd) (S : FnScope N ps (q03 st)) (len : ∀ vs H Q E, sp vs H Q E → vs.length = ps.length)
  (hbody : ∀ (cdv : Value) (A : Around) (outer : List Env) (s : Shared) (H : Hp) (vs : List V) (Q : VK) (E : XK), Room k (A.deeper (envOfC qual (q03 st) s.heap.objs.size f cdv)) → sp vs H Q E →
   ∃ t, PSXs (cxOf (CX1 P w) P w K mg base N qual (q03 st) f cdv A outer s H E) (q0c st) t ∧ t { nx := fun _ H' => Q .non H', rt := Q } (fun _ cls H' => E cls none H') (start N vs) H) : FnOk P w K mg base (CX1 P w) (k + 1) f fd ps sp := by
 obtain ⟨oc, od, kV, doc, pm, an, cdv, ct, osl, rfl, lk, hcd⟩ := F.ex
 refine qi6 lk hcd S len fun A outer s H vs Q E hr hsp => ?_
 obtain ⟨t, h, q⟩ := hbody cdv A outer s H vs Q E hr hsp
 refine ⟨fun D σ H' => t D (fun _ cls H' => E cls none H') σ H', fun pins s1 σ H1 D I hw => ?_, q⟩
 exact wpAny_mono (h pins s1 σ H1 D _ I hw) (fun _ _ z => z) fun e s2 z => XP.leaves q3n I.ok.frames (fun _ _ _ q => q) z
end
end L2
end
section
namespace L2
open PySem PySem.Spec PyProof.Rows
theorem qjz {K : PySem.W.Frag} {h : Heap} {C : Addr} {bmB : List Value} {newId : String} (Y : K.In h) (q : PySem.W.excIn K C bmB newId = true) : ∃ bm N nm qn bs hdct sn sub ab col dd k0 k1 k2 k3 k5 mN,
  h.get? C = some (excClassObj nm qn C N bs bm hdct sn sub ab col dd k0 k1 k2 k3 k5 newId) ∧ h.Ns N mN ∧ mN "__init__" = none ∧ OwnTail h bmB bm := by
 unfold PySem.W.excIn at q
 split at q
 case h_2 => cases q
 case h_1 dd cd sl ho =>
  split at q
  case h_2 => cases q
  case h_1 C' bm k0 k1 k2 k3 n k5 hm hs =>
   simp only [Bool.and_eq_true, beq_iff_eq, Bool.not_eq_true'] at q
   obtain ⟨⟨⟨⟨⟨e1, e2⟩, e3⟩, e4⟩, e5⟩, e6⟩ := q
   obtain ⟨nm, bs, mro, ns, qn, hd, sn, sub, ab, col, del⟩ := cd
   dsimp only at hm e3 e5 e6
   subst hm e1 e2 e3
   obtain ⟨sl⟩ := sl
   dsimp only at hs
   subst hs
   exact ⟨bm, ns, nm, qn, bs, hd, sn, sub, ab, col, dd, k0, k1, k2, k3, k5, _, Y _ _ ho, .of_isNs (PySem.W.isNs_of_in Y e5), PySem.W.nsMap_none_of_in Y e5 e6, PySem.W.tail_of_in Y e4⟩
section
variable {X : Cx} {C : Addr} {bmB : List Value} {Bn newId initId : String} {x : Str} {np cpos pos : Pos} {e : Expr} {es : List Expr} {t : TA}
theorem qdl {pins : List (Addr × Obj)} {σ : St} {H : Hp} {s : Shared} (fx : FnCx X) (I : Inv X pins σ H s) : Cov X pins H (PySem.W.hideAll s.heap (frs X.stack)) ∧ (PySem.W.hideAll s.heap (frs X.stack)).StaysIn s.heap ∧ s.heap.FunFrames (PySem.W.hideAll s.heap (frs X.stack)) X.stack := by
 have nx : ∀ b : Addr, b ∉ X.ex := fun b => by rw [fx.ex]; simp
 have neL : ∀ b o, X.s₀.heap.get? b = some o → b ≠ X.env.locals := fun b o z => Nat.ne_of_lt (Nat.lt_of_lt_of_le (Heap.lt_size z) I.ok.above)
 refine ⟨⟨fun b o z n hb => PySem.W.hideAll_get _ (I.base.keep b o z n hb (nx b)) (I.nofsL fx (neL b o z) hb), fun b hb => ?_, fun x c z => ?_, fun p hp => ?_, fun b o z hb => ?_⟩, fun b o z => PySem.W.of_hideAll _ z, PySem.W.funFrames_hide I.stack fun env he a ha => List.mem_filterMap.mpr ⟨env, he, ha⟩⟩
 ·cases q : H b with
  | none => exact absurd q hb
  | some u =>
   have lt := I.hok.lt q
   obtain ⟨o, ho⟩ : ∃ o, s.heap.get? b = some o := by
    have z := I.hok b u q
    cases u with
    | lst xs => obtain ⟨_, _, _, _, e⟩ := z; exact ⟨_, e⟩
    | tup xs => obtain ⟨_, _, _, ob, e, _⟩ := z; exact ⟨_, e⟩
    | dK kvs => obtain ⟨_, _, _, _, o, _, _, e, _⟩ := z; exact ⟨_, e⟩
    | dT kvs => obtain ⟨_, _, _, _, o, _, _, e, _⟩ := z; exact ⟨_, e⟩
    | set S n => obtain ⟨o, _, _, _, e, _⟩ := z; exact ⟨_, e⟩
    | ins C dx fs => obtain ⟨_, _, _, e, _⟩ := z; exact ⟨_, e⟩
    | own y => exact z
    | xd fs => obtain ⟨_, ⟨_, _, _, e, _⟩, _⟩ := z; exact ⟨_, e⟩
    | rng lo hi => obtain ⟨_, _, _, e⟩ := z; exact ⟨_, e⟩
    | frz ob u => exact ⟨_, z.1⟩
    | tbl ps => exact ⟨_, z⟩
    | met f y => exact ⟨_, z⟩
    | ext φ => exact z.2.1
   refine ⟨o, PySem.W.hideAll_get _ ho fun hm => ?_⟩
   rw [I.stkFree b hm] at q
   cases q
 ·obtain ⟨v, o, ho, _⟩ := I.cell x c z
  refine ⟨o, PySem.W.hideAll_get _ ho (I.nofsL fx (I.cne x c z) fun hb => ?_)⟩
  obtain ⟨_, o2, ho2, _⟩ := I.ok.funs.mem hb
  exact absurd (Nat.lt_of_lt_of_le (Heap.lt_size ho2) (I.ok.cab x c (fx.fn x) z)) (Nat.lt_irrefl _)
 ·obtain ⟨z, n, ne, nf, _⟩ := I.pin p hp
  exact PySem.W.hideAll_get _ z (I.nofsL fx ne nf)
 ·obtain ⟨o1, z1⟩ := I.base.there b o z (nx b)
  exact ⟨o1, PySem.W.hideAll_get _ z1 (I.nofsL fx (neL b o z) hb)⟩
theorem q7x (fx : FnCx X) (hc : X.calm = true) (hm : X.mg x = some (.ref C)) (q : PySem.W.excIn X.K C bmB newId = true) (FB : ExcBaseFacts Bn newId initId bmB) (ha : PA X.nox (e :: es) t) (hg : Gl X x := by rfl) (hdb : (x == ("__debug__" : Str)) = false := by decide)
  (he : starEach (e :: es) X.env = (false, eval e X.env) :: starEach es X.env := by rfl) (hpl : (backTo cpos (starEach es X.env)).any (·.1) = false := by rfl) :
  PSX X (.Raise (some (.Call (.Name x np) (e :: es) [] cpos)) none pos) (fun _ xk σ H => t σ H fun vs H1 => vs.length ≤ sizeLine ∧ xk σ (.ref C) H1) := by
 intro pins s σ H D xk I h
 obtain ⟨bm, N, nm, qn, bs, hdct, sn, sub, ab, col, dd, k0, k1, k2, k3, k5, mN, hC, hN, hni, T⟩ := qjz I.mod.kin q
 refine wpAny_Raise_call_subT (C := C) (nm := nm) (q := qn) (N := N) (bs := bs) (bm := bm) (hdct := hdct) (sn := sn) (sub := sub) (ab := ab) (col := col) (dd := dd) (k0 := k0) (k1 := k1) (k2 := k2) (k3 := k3) (k5 := k5) FB (mN := mN) (T.hasType FB.hasBase) (I.ok.hd hc)
  (by rw [he]; show (false || (backTo cpos (starEach es X.env)).any (·.1)) = false; rw [hpl]; rfl) hni (q59 I hg hm ⟨rfl, ?_⟩ hdb)
 have hA := ha cpos pins s σ H _ (I.wish _) h
 rw [show starEach (e :: es) X.nox.env = (false, eval e X.env) :: starEach es X.env from he] at hA
 rw [he]
 refine Calls.evalArgs_plain (wpAny_mono hA (fun us s2 ⟨vs, H2, I2, r, hz, hx⟩ => ?_) fun _ _ z => z.elim)
 have I2 := I2.unwish
 refine ⟨rfl, by rw [← r.length]; exact hz, I2.bk _ _ hC, hN.keeps I2.bk, T.keeps I2.bk, fun h' ea mk => ?_⟩
 obtain ⟨cv, st, fu⟩ := qdl fx I2
 exact ⟨ea, .ref C, σ, H2, rfl, I2.kept (t' := s2.toks) mk.keeps, .inl ⟨_, s2.heap, us, cv, mk, st, fu⟩, hx⟩
end
def qk4 (wi : TI) (g : TG) (tb : TX) : TX := fun D xk σ H => wi σ H fun J H1 => ∃ W : Nat → Nat → St → Hp → Prop, (∃ m, W 0 m σ H1) ∧ ∀ i m σ H, W i m σ H →
 (J.stop i H ∧ D.nx σ H) ∨ (J.go i H ∧ ∃ N : St → Hp → Prop, (∀ σ' H', N σ' H' → ∃ m', m' < m ∧ W (i + 1) m' σ' H') ∧ ∀ x H', J.yld i H x H' → g x σ H' fun σ2 H2 => tb { D with nx := N, ct := N, bk := D.nx } xk σ2 H2)
theorem PIE.unwish {X : Cx} {pins : List (Addr × Obj)} {σ : St} {tg : Expr} {R : It → Hp → Prop} {v : Value} {s : Shared} {E : Value → Shared → Prop} (h : PIE (X.wish E) pins σ tg R v s) : PIE X pins σ tg R v s :=
 let ⟨it, fp, tn, J, H', e, I, T, st, f, r⟩ := h; ⟨it, fp, tn, J, H', e, I.unwish, T, st, f, r⟩
theorem qh4 {X : Cx} {tg iter : Expr} {body : List Stmt} {wi : TI} {g : TG} {tb : TX} {pos : Pos} (fx : FnCx X) (hc : X.calm = true) (hi : PI X.nox tg iter wi) (hg : PG X.nox tg g) (hb : PSXs X body tb)
  (hs : ∀ x, foldedSetIterable iter X.env x = pure x := by intro _; rfl) : PSX X (.For tg iter body [] pos) (qk4 wi g tb) := by
 intro pins s σ H D xk I h
 have hp : PassesOwn (model X.prog X.w) X.A X.env (XP X pins xk) := XP.passes fx I.ok.frames
 refine wpAny_For (wpAny_mono (hi pins s σ H _ (I.wish _) h) (fun v s1 h1 => wpAny_mono h1 (fun itv s2 h2 => ?_) fun _ _ z => z.elim) fun _ _ z => z.elim) hs
 obtain ⟨it, fp, tn, J, H2, e, I2, T, st2, f2, W, ⟨m0, w0⟩, turn⟩ := PIE.unwish h2
 subst e
 have stat : ∀ {H' : Hp}, (∀ b ∈ fp, H' b = none) → ∀ b ∈ fp, FpOk X pins H' b := fun hn b hb => ⟨hn b hb, (f2 b hb).2⟩
 refine codeAny_forLoop_any (fun n s' => ∃ i σ' H', Inv X pins σ' H' s' ∧ tn i s'.heap ∧ (∀ b ∈ fp, H' b = none) ∧ W i n σ' H') ?_ m0 ⟨0, σ, H2, I2, st2, fun b hb => (f2 b hb).1, w0⟩
 rintro n s3 ⟨i, σ3, H3, I3, st3, fr3, w3⟩
 rcases turn i n σ3 H3 w3 with ⟨stop, qn⟩ | ⟨go, N, hN, step⟩
 ·refine wpAny_passesOwn hp (thn (T.done X rfl rfl rfl hc i pins s3 σ3 H3 _ I3 (stat fr3) st3 stop) fun r s4 ⟨hr, I4⟩ => ?_)
  subst hr
  exact wpAny_execs_nil ⟨σ3, H3, I4, qn⟩
 ·refine wpAny_passesOwn hp (thn (T.item X rfl rfl rfl hc i pins s3 σ3 H3 _ I3 (stat fr3) st3 go) fun r s4 ⟨u, hr, h4⟩ => ?_)
  subst hr
  refine wpAny_passesOwn hp (thn h4 fun _ s5 ⟨x, H5, I5, r5, y5, st5, fr5⟩ => ?_)
  have I5' := I5.pinned (stat fr5) (T.obj _ _ st5)
  refine wpAny_mono (hg _ s5 σ3 H5 x u _ (I5'.wish _) r5 (step x H5 y5)) (fun _ s6 ⟨σ6, H6, I6, q6⟩ => ?_) fun _ _ z => z.elim
  refine wpAny_passesOwn hp (wpAny_mono (hb _ s6 σ6 H6 _ xk I6.unwish q6) (fun f s7 q7 => ?_) fun _ _ z => z.unpinned)
  have again : ∀ {σ7 : St} {H7 : Hp}, Inv X (pins ++ q5o fp s5.heap) σ7 H7 s7 → N σ7 H7 → ∃ m, m < n ∧ ∃ i σ' H', Inv X pins σ' H' s7 ∧ tn i s7.heap ∧ (∀ b ∈ fp, H' b = none) ∧ W i m σ' H' := fun {σ7 H7} I7 n7 => by
   obtain ⟨m', hm, w7⟩ := hN σ7 H7 n7
   refine ⟨m', hm, i + 1, σ7, H7, I7.unpinned, T.keep _ _ _ st5 fun b hb o e => (I7.pin (b, o) (List.mem_append_right _ (List.mem_append_right _ (q2d hb e)))).1, fun b hb => ?_, w7⟩
   obtain ⟨o, e, d⟩ := T.obj _ _ st5 b hb
   exact (I7.pin (b, o) (List.mem_append_right _ (List.mem_append_right _ (q2d hb e)))).2.1
  cases f with
  | next => obtain ⟨σ7, H7, I7, n7⟩ := q7; exact again I7 n7
  | cont => obtain ⟨σ7, H7, I7, n7⟩ := q7; exact again I7 n7
  | brk => obtain ⟨σ7, H7, I7, q7⟩ := q7; exact ⟨σ7, H7, I7.unpinned, q7⟩
  | ret v => obtain ⟨x7, σ7, H7, I7, r7, q7⟩ := q7; exact ⟨x7, σ7, H7, I7.unpinned, r7, q7⟩
section
variable {X : Cx} {pins : List (Addr × Obj)} {σ : St} {H : Hp} {s : Shared} {h' : Heap} {e it : Addr}
end
end L2
end
section
namespace L2
open PySem PySem.Spec PyProof.Rows
structure XCls (K : PySem.W.Frag) (D : Addr) : Prop where
 ga : PySem.W.findIn K (.ref D) "__getattribute__" = some (some (.builtin "BaseException.__getattribute__"))
 gn : PySem.W.findIn K (.ref D) "__getattr__" = some none
 cl : PySem.W.findIn K (.ref D) "__class__" = some (some (.builtin "object.__class__"))
 hn : PySem.W.specialIn K (.builtin "object.__class__") "__get__" = some (some (.builtin "getset_descriptor.__get__"))
 tk : PySem.W.takesIn K (.builtin "object.__class__") = some true
 mo : PySem.W.mroIn K D (.type "object") = some true
 mb : PySem.W.mroIn K D (.type "BaseException") = some true
 ty : PySem.W.typeIn K (.ref D) = some (.type "type")
theorem qh2 {K : PySem.W.Frag} {D : Addr} {b : Value} {r : Bool} (e : PySem.W.mroIn K D b = some r) : ∃ cd, PySem.W.clsIn K D = some cd := let ⟨cd, a, _⟩ := Option.bind_eq_some_iff.mp e; ⟨cd, a⟩
section
variable {prog : Program} {w : World} {A : Around} {E : Value → Shared → Prop} {s : Shared} {K : PySem.W.Frag} {x D : Addr} {ox : Obj}
theorem XCls.matches {C : Addr} {b : Bool} {Q : Bool → Shared → Prop} (Z : XCls K D) (ZC : XCls K C) (X : K.In s.heap) (I : PySem.W.InstAt s.heap x ox D none) (e : PySem.W.mroIn K D (.ref C) = some b) (h : Q b s) : wpAny (model prog w) A (excMatches (.ref x) (.ref C)) Q E s := by
 obtain ⟨hh, g, d, t, os⟩ := s
 have L0 := I.type (M := model prog w)
 have L1 := PySem.W.looks_typeIn (M := model prog w) X ZC.ty
 have L2 := PySem.W.looks_mroIn (M := model prog w) X ZC.mb
 have L3 := PySem.W.looks_mroIn (M := model prog w) X e
 obtain ⟨cdC, hcC⟩ := qh2 ZC.mo
 have L4 : PySem.W.Looks (model prog w) hh (isType (.ref C)) true := by
  unfold PySem.W.clsIn at hcC
  split at hcC
  ·rename_i c' d' cd' sl' ho
   intro A' Q' E' s' k q
   unfold isType loadHead
   exact wpAny_bind (wpAny_loadPart (k _ _ (X _ _ ho)) (wpAny_pure q))
  ·cases hcC
 have f : PySem.W.Looks (model prog w) hh (isSubtype (.type "type") (.type "tuple")) false := PySem.W.Looks.of_pure tc_notTuple
 have LX : PySem.W.Looks (model prog w) hh (isExcClass (.ref C)) true := by
  unfold isExcClass
  first | exact L4.andThen L2 | exact L2.andThen .now | exact L4.andThen (L2.andThen .now)
 unfold excMatches
 refine wpAny_bind ((L1.andThen f).at ?_)
 dsimp only
 rw [if_neg (by decide)]
 refine wpAny_bind (wpAny_pure ?_)
 simp only [List.forIn_cons, List.forIn_nil]
 refine wpAny_bind (wpAny_bind (wpAny_bind (LX.at ?_)))
 simp only [Bool.not_true, Bool.false_eq_true, if_false]
 refine wpAny_pure (wpAny_pure ?_)
 refine wpAny_bind (L0.at ?_)
 simp only [List.forIn_cons, List.forIn_nil]
 refine wpAny_bind (wpAny_bind (wpAny_bind (L3.at ?_)))
 cases b with
 | true => exact wpAny_pure (wpAny_pure (wpAny_pure h))
 | false => exact wpAny_pure (wpAny_pure (wpAny_pure h))
end
abbrev Cx.hnd (X : Cx) (ea : Addr) : Cx := { X with A := X.A.mark (some (.ref ea)), calm := false }
section
variable {X : Cx} {pins : List (Addr × Obj)} {σ : St} {H : Hp} {s : Shared} {ea : Addr}
theorem Cx.Ok.hnd (ok : X.Ok) : (X.hnd ea).Ok := ⟨ok.mod, ok.kind, ok.glob, ok.blt, ok.above, ok.inj, ok.has, ok.cab, (fun z => nomatch z), ok.frames, ok.stk, ok.exf, ok.bs, ok.bsz, ok.noex, ok.exfs, ok.funs, ok.frf⟩
theorem Inv.hnd (I : Inv X pins σ H s) : Inv (X.hnd ea) pins σ H s := ⟨I.ok.hnd, I.os, I.bare, I.base, I.loc, I.cell, I.free, I.freeC, I.pin, I.hok, I.len⟩
theorem Inv.unhnd (ok : X.Ok) (I : Inv (X.hnd ea) pins σ H s) : Inv X pins σ H s := ⟨ok, I.os, I.bare, I.base, I.loc, I.cell, I.free, I.freeC, I.pin, I.hok, I.len⟩
theorem SP.unhnd {D : Ends} {f : Flow} (ok : X.Ok) (h : SP (X.hnd ea) pins D f s) : SP X pins D f s := by
 cases f with
 | next => obtain ⟨σ', H', I, q⟩ := h; exact ⟨σ', H', I.unhnd ok, q⟩
 | brk => obtain ⟨σ', H', I, q⟩ := h; exact ⟨σ', H', I.unhnd ok, q⟩
 | cont => obtain ⟨σ', H', I, q⟩ := h; exact ⟨σ', H', I.unhnd ok, q⟩
 | ret u => obtain ⟨v, σ', H', I, r, q⟩ := h; exact ⟨v, σ', H', I.unhnd ok, r, q⟩
theorem XF.inst {D : Addr} {fl : Value} {B : Heap} (F : XF X pins ea (.ref D) fl H s B) : ∃ oe, PySem.W.InstAt s.heap ea oe D none := by
 obtain ⟨oe, vs, T, oT, ts, he, hc, hdd, hd, _⟩ := F.tr
 refine ⟨oe, he, hc, ?_, ?_⟩
 ·unfold PySem.W.notCls; rw [hd]
 ·rw [hdd]; trivial
end
abbrev TH := Addr → TX
def PHX (X : Cx) (hs : List ExceptHandler) (t : TH) : Prop :=
 ∀ (pins : List (Addr × Obj)) (s : Shared) (σ : St) (H : Hp) (D : Ends) (xk : XKs) (ea C : Addr) (B : Heap), Inv X pins σ H s → XF X pins ea (.ref C) .none H s B → t C D xk σ H → wpAny (model X.prog X.w) X.A (handleBy (.ref ea) X.env hs) (SP X pins D) (XP X pins xk) s
section
variable {X : Cx} {x : Str} {np pos : Pos} {C : Addr} {b0 : Stmt} {body : List Stmt} {hs : List ExceptHandler} {t : Addr → TS} {th : TH}
theorem qht : PHX X [] (fun _ _ _ _ _ => False) := fun _ _ _ _ _ _ _ _ _ _ _ h => h.elim
theorem q90 (fx : FnCx X) (hm : X.mg x = some (.ref C)) (ZC : XCls X.K C) (hb : ∀ ea, PSs (X.hnd ea).nox (b0 :: body) (t ea)) (hh : PHX X hs th) (hg : Gl X x := by rfl) (hdb : (x == ("__debug__" : Str)) = false := by decide) :
  PHX X (.ExceptHandler (some (.Name x np)) none (b0 :: body) pos :: hs) (fun D E xk σ H => XCls X.K D ∧ ∃ b, PySem.W.mroIn X.K D (.ref C) = some b ∧ if b = true then (∀ ea, t ea E σ H) else th D E xk σ H) := by
 intro pins s σ H E xk ea D B I F ⟨ZD, b, eb, h⟩
 refine wpAny_handleBy_cons (codeAny_handlers_test (q59 (X := X.hnd ea) I.hnd hg hm ?_ hdb)) (by intro q; cases q)
 obtain ⟨ox, J⟩ := F.inst
 refine ZD.matches ZC I.kIn J eb ?_
 cases b with
 | false => exact hh pins s σ H E xk ea D B I F h
 | true =>
  refine codeAny_handlers_suite (F.flight fx I fun h1 I1 F1 => ?_)
  exact wpAny_mono (hb ea pins _ σ H E (I1.hnd.wish _) (h ea)) (fun f s2 q => SP.unhnd I.ok (SP.unwish q)) fun _ _ z => z.elim
theorem qhk {h0 : ExceptHandler} {bd : List Stmt} {tb : TX} (fx : FnCx X) (hb : PSXs X bd tb) (hh : PHX X (h0 :: hs) th) : PSX X (.Try bd (h0 :: hs) [] [] pos) (fun D xk σ H => tb D (fun σ' cls H' => ∃ C, cls = .ref C ∧ th C D xk σ' H') σ H) := by
 intro pins s σ H D xk I h
 refine wpAny_Try_except (wpAny_mono (hb pins s σ H D _ I h) (fun f s1 q => ?_) fun e s1 q => ?_)
 ·cases f with
  | next => exact wpAny_execs_nil q
  | brk => exact q
  | cont => exact q
  | ret u => exact q
 ·obtain ⟨ea, cls, σ1, H1, rfl, I1, S, C, rfl, q⟩ := q
  exact XSt.note fx I1 S I.ok.frames fun h2 B I2 F2 => F2.flight fx I2 fun h3 I3 F3 => hh pins _ σ1 H1 D xk ea C B I3 F3 q
end
end L2
end
section
namespace L2
open PySem PySem.Spec PyProof.Rows
section
variable {K : PySem.W.Frag} {D C : Addr} {b : Bool} {T : String}
end
section
variable {X : Cx}
def rInA (K : PySem.W.Frag) (neg : Bool) : R2 := fun x y H Q => ∃ (p : Addr) (as : List Addr) (e : Addr → Bool), y = .ref p ∧ SqL K H p (as.map V.ref) ∧ (∀ a ∈ as, EqH K H 60 (.ref a) x (e a)) ∧ Q (.bl (if neg then !as.any e else as.any e)) H
def refB (e : Addr → Bool) : Value → Bool
 | .ref a => e a
 | _ => false
theorem q7v : ∀ {as : List Addr} {us : List Value}, Vals (as.map V.ref) us → us = as.map Value.ref
 | [], _, .nil => rfl
 | a :: as, _, .cons r t => by rw [List.map_cons, q7v t]; exact congrArg (· :: _) r
end
theorem FnOk.calm {P : Program} {w : World} {K : PySem.W.Frag} {mg : Str → Option Value} {base : Heap} {k : Nat} {f : Addr} {fd : FuncData} {ps : List Str} {sp sp' : Sp} (F : FnOk P w K mg base (CX1 P w) k f fd ps sp)
  (h : ∀ vs H Q E, sp' vs H Q E → sp vs H Q fun _ _ _ => False) : FnOk P w K mg base CX0 k f fd ps sp' :=
 ⟨fun vs H Q E q => F.len vs H Q _ (h vs H Q E q), fun A outer s H args us vs Q E hr e0 hb r hsp => codeAny_mono (F.run A outer s H args us vs Q _ hr e0 hb r (h vs H Q E hsp)) fun r s' q => by
  cases r with
  | error e => obtain ⟨_, _, _, _, _, _, _, _, _, _, _, _, _, _, _, _, z⟩ := q; exact z.elim
  | ok f => cases f <;> exact q⟩
section
variable {X : Cx} {K : PySem.W.Frag}
theorem qg7 {es : List Expr} {k : Nat} {t : TGs} {n : Nat} {pos : Pos} (hK : X.K = K) (hc : X.calm = true) (h : PGs X es t)
  (hn : (assignEach es X.env).length = n := by rfl) (hst : (assignEach es X.env).findIdx? (·.1) = none := by rfl) : PG X (.Tuple es k pos) (gTup K n t) := by subst hK; exact qfh hc h hn hst
end
end L2
end
section
namespace L2
open PySem PySem.Spec PyProof.Rows
def qj7 (C : Addr) (m : Str) (sp : Sp) (ta : TE) (t : TA) : TEx := fun xk σ H Q => ta σ H fun x H1 => ∃ a dx fs, x = .ref a ∧ H1 a = some (.ins C dx fs) ∧ fs.lookup m = none ∧ t σ H1 fun vs H2 => sp (.ref a :: vs ++ []) H2 Q fun cls _ H3 => xk σ cls H3
section
variable {X : Cx} {k : Nat} {C : Addr} {ps : List Str} {sp : Sp} {x m : Str} {p pos apos : Pos} {e o : Expr} {es : List Expr} {ta : TE} {t : TA}
theorem q7t {pl : Sem Bool} (fx : FnCx X) (D : Md X.prog X.w X.K X.mg X.base (CX1 X.prog X.w) C k m ps sp) (hr : Room k X.A) (ho : PE X.nox o ta) (ha : PA X.nox (e :: es) t)
  (hst : starEach (e :: es) X.env = (false, eval e X.env) :: starEach es X.env := by rfl) (hpl : (backTo pos (starEach es X.env)).any (·.1) = false := by rfl)
  (ht : eval (.Call (.Attribute o m apos) (e :: es) [] pos) X.env = (do
   let ov ← eval o X.env
   standAt apos.atName
   let (f, first) ← holding [ov] (getMethod ov m pl)
   callWith pos f first (backTo pos (starEach (e :: es) X.env)) (backToKw pos (keywordEach [] X.env))) := by rfl) :
  PEX X (.Call (.Attribute o m apos) (e :: es) [] pos) (qj7 C m sp ta t) := by
 obtain ⟨f, fd, hm, hb, F⟩ := D.ex
 intro pins s σ H Q xk I h
 refine PySem.W.methodCall_KW (pl := pl) (wpAny_mono (ho pins s σ H _ (I.wish _) h) (fun u s1 ⟨x, H1, I1, rx, a, dx, fs, ex, ea, l, q⟩ => ?_) fun _ _ z => z.elim) ht
 have I1 := I1.unwish
 subst ex
 obtain rfl : u = Value.ref a := rx
 refine q3b I1 ea D.cl hm l ?_
 refine PySem.W.callWith_K (first := [.ref a]) (h₀ := X.base) I.ok.mod.kin hm.kp (wpAny_mono (ha pos pins s1 σ H1 _ (I1.wish _) q) (fun us s2 ⟨vs, H2, I2, r, q2⟩ => ⟨I2.unwish.kIn, ?_⟩) fun _ _ z => z.elim) hst hpl
 exact q8i (us := .ref a :: us) (vs := .ref a :: vs) F hr hb fx I2.unwish (.cons rfl r) q2
end
def isD : HO → Prop
 | .dK _ => True
 | .dT _ => True
 | _ => False
section
variable {X : Cx} {pins : List (Addr × Obj)} {σ : St} {H : Hp} {s : Shared} {d : Addr} {u v : HO}
end
end L2
end
section
namespace L2
open PySem PySem.Spec PyProof.Rows
section
variable {prog : Program} {w : World} {A : Around} {E : Value → Shared → Prop} {s : Shared} {it d : Addr} {od : Obj} {es : Array DictEntry} {i ep : Nat} {e : DictEntry} {ok ov : Value}
theorem qan {Q : Option Value → Shared → Prop} (hit : IsItemIter s.heap it d i es.size ep ok ov) (hod : s.heap.get? d = some od) (hdd : od.data = .dict es ep) (hx : es[i]? = some e)
  (k : ∀ h', IsItemIterOut h' it d (i + 1) es.size ep e.key e.val s.heap.objs.size → h'.get? s.heap.objs.size = some { cls := .type "tuple", data := .seq #[e.key, e.val] } → h'.objs.size = s.heap.objs.size + 1 → (∀ b o, b ≠ it → s.heap.get? b = some o → h'.get? b = some o) → Q (some (.ref s.heap.objs.size)) { s with heap := h' }) :
  wpAny (model prog w) A (pyNext (.ref it)) Q E s := by
 obtain ⟨hp, g, dr, tk, os⟩ := s
 have hT : Shared.TypeIs ⟨hp, g, dr, tk, os⟩ (.ref it) "dict_itemiterator" := ⟨_, hit, rfl⟩
 have hi : i < es.size := (Array.getElem?_eq_some_iff.mp hx).1
 unfold pyNext
 refine wpAny_bind (wpAny_attempt (wpAny_callSpecial?_slot (name := Str.ofString "__next__") hT F.slot_dict_itemiterator_next (wpAny_call_entry F.slot_dict_itemiterator_next hT F.entry_dict_itemiterator_next ?_ (F.args_dict_itemiterator_next_1 _))))
 refine wpAny_bind (wpAny_pure (wpAny_bind (wpAny_bind ?_)))
 refine wpAny_bind (wpAny_typeNameOfWhole_itemiter hT (wpAny_pure (wpAny_bind (wpAny_fieldsOf hit rfl ?_))))
 have own : Builtin.Dict_items.ownsTuple "dict_itemiterator" = true := by decide
 simp only [own, if_true]
 have nn : ¬ (Value.ref d == Value.none) = true := Bool.false_ne_true
 show wpAny _ _ (if (Value.ref d == Value.none) = true then _ else _) _ _ _
 rw [if_neg nn]
 refine wpAny_bind (wpAny_pure (wpAny_bind (wpAny_dictEntries hod hdd ?_)))
 rw [if_neg (by simp)]
 refine wpAny_bind (wpAny_pure (wpAny_bind (wpAny_dictEpoch hod hdd ?_)))
 rw [if_neg (by simp)]
 refine wpAny_pure ?_
 have n0 : ¬ ((i : Int) < 0) := by omega
 simp only [n0, if_false, Int.toNat_natCast, hx]
 refine wpAny_bind (wpAny_bind (wpAny_typeNameOfWhole_itemiter hT (wpAny_pure ?_)))
 refine wpAny_bind (wpAny_isOneOf_itemiter hT ?_)
 show wpAny _ _ (setField (.ref it) 3 (rawInt ((i : Int) + 1)) >>= _) _ _ _
 refine wpAny_bind (wpAny_setField_rec hit (by simp) fun h1 q1 b1 => ?_)
 have b1 : Heap.SameBut it hp h1 := b1
 have q1 : IsItemIter h1 it d (i + 1) es.size ep ok ov := by
  have z : ((i + 1 : Nat) : Int) = (i : Int) + 1 := by omega
  unfold IsItemIter
  rw [z]
  simpa [rawInt] using q1
 have hT1 : Shared.TypeIs ⟨h1, g, dr, tk, os⟩ (.ref it) "dict_itemiterator" := ⟨_, q1, rfl⟩
 refine wpAny_bind (wpAny_holding (wpAny_bind (wpAny_isOneOf_itemiter hT1 (wpAny_bind (wpAny_isOneOf_itemiter hT1 ?_)))))
 show wpAny _ _ (Builtin.Dict_items.pairFromOwner (.ref it) 6 e.key e.val) _ _ _
 unfold Builtin.Dict_items.pairFromOwner
 refine wpAny_bind (wpAny_newTuple ?_)
 have z1 : h1.objs.size = hp.objs.size := b1.1
 have il : it < hp.objs.size := Heap.lt_size hit
 have ne : hp.objs.size ≠ it := Nat.ne_of_gt il
 have q2 : IsItemIter (h1.push { cls := .type "tuple", data := .seq #[e.key, e.val] }) it d (i + 1) es.size ep ok ov := Heap.get?_push_of_some _ q1
 have t2 : (h1.push { cls := .type "tuple", data := .seq #[e.key, e.val] }).get? hp.objs.size = some { cls := .type "tuple", data := .seq #[e.key, e.val] } := by rw [← z1]; exact Heap.get?_push_size _ rfl
 have s2 : (h1.push { cls := .type "tuple", data := .seq #[e.key, e.val] }).objs.size = hp.objs.size + 1 := by rw [Heap.size_push, z1]
 have k2 : ∀ b o, b ≠ it → hp.get? b = some o → (h1.push { cls := .type "tuple", data := .seq #[e.key, e.val] }).get? b = some o := fun b o hb q => Heap.get?_push_of_some _ (b1.extBut b o hb q)
 generalize h1.push { cls := .type "tuple", data := .seq #[e.key, e.val] } = h2 at q2 t2 s2 k2
 show wpAny _ _ (Builtin.Dict_items.ownedTupleIsFree (.ref it) >>= _) _ _ _
 rw [z1]
 refine wpAny_bind ?_
 unfold Builtin.Dict_items.ownedTupleIsFree
 refine wpAny_bind (wpAny_field q2 rfl (x := .none) rfl (wpAny_pure ?_))
 simp only [if_true]
 refine wpAny_bind (wpAny_field q2 rfl (x := ok) rfl (wpAny_bind (wpAny_field q2 rfl (x := ov) rfl ?_)))
 refine wpAny_bind (wpAny_setField_rec q2 (by simp) fun h3 q3 b3 => ?_)
 have b3 : Heap.SameBut it h2 h3 := b3
 have q3 : IsItemIter h3 it d (i + 1) es.size ep e.key ov := q3
 refine wpAny_bind (wpAny_setField_rec q3 (by simp) fun h4 q4 b4 => ?_)
 have b4 : Heap.SameBut it h3 h4 := b4
 have q4 : IsItemIter h4 it d (i + 1) es.size ep e.key e.val := q4
 refine wpAny_bind (wpAny_setField_rec q4 (by simp) fun h5 q5 b5 => ?_)
 have b5 : Heap.SameBut it h4 h5 := b5
 have q5 : IsItemIterOut h5 it d (i + 1) es.size ep e.key e.val hp.objs.size := q5
 refine wpAny_bind (wpAny_setField_rec q5 (by simp) fun h6 q6 b6 => ?_)
 have b6 : Heap.SameBut it h5 h6 := b6
 have q6 : IsItemIterOut h6 it d (i + 1) es.size ep e.key e.val hp.objs.size := q6
 have kp : ∀ b o, b ≠ it → h2.get? b = some o → h6.get? b = some o := fun b o hb q => b6.extBut b o hb (b5.extBut b o hb (b4.extBut b o hb (b3.extBut b o hb q)))
 refine wpAny_bind (wpAny_letGo (wpAny_pure (wpAny_pure ⟨_, rfl, wpAny_pure (k h6 q6 (kp _ _ ne t2) ?_ fun b o hb q => kp b o hb (k2 b o hb q))⟩)))
 show h6.objs.size = hp.objs.size + 1
 rw [b6.1, b5.1, b4.1, b3.1, s2]
theorem qcp {Q : Option Value → Shared → Prop} (hh : A.handled = none) (hit : IsItemIter s.heap it d i es.size ep ok ov) (hod : s.heap.get? d = some od) (hdd : od.data = .dict es ep) (hx : es.size ≤ i)
  (k : ∀ h', Heap.ExtBut it s.heap h' → Q none { s with heap := h' }) : wpAny (model prog w) A (pyNext (.ref it)) Q E s := by
 obtain ⟨hp, g, dr, tk, os⟩ := s
 have hT : Shared.TypeIs ⟨hp, g, dr, tk, os⟩ (.ref it) "dict_itemiterator" := ⟨_, hit, rfl⟩
 unfold pyNext
 refine wpAny_bind (wpAny_attempt (wpAny_callSpecial?_slot (name := Str.ofString "__next__") hT F.slot_dict_itemiterator_next (wpAny_call_entry F.slot_dict_itemiterator_next hT F.entry_dict_itemiterator_next ?_ (F.args_dict_itemiterator_next_1 _))))
 refine wpAny_bind (wpAny_pure (wpAny_bind (wpAny_bind ?_)))
 refine wpAny_bind (wpAny_typeNameOfWhole_itemiter hT (wpAny_pure (wpAny_bind (wpAny_fieldsOf hit rfl ?_))))
 have own : Builtin.Dict_items.ownsTuple "dict_itemiterator" = true := by decide
 simp only [own, if_true]
 have nn : ¬ (Value.ref d == Value.none) = true := Bool.false_ne_true
 show wpAny _ _ (if (Value.ref d == Value.none) = true then _ else _) _ _ _
 rw [if_neg nn]
 refine wpAny_bind (wpAny_pure (wpAny_bind (wpAny_dictEntries hod hdd ?_)))
 rw [if_neg (by simp)]
 refine wpAny_bind (wpAny_pure (wpAny_bind (wpAny_dictEpoch hod hdd ?_)))
 rw [if_neg (by simp)]
 refine wpAny_pure ?_
 have n0 : ¬ ((i : Int) < 0) := by omega
 simp only [n0, if_false, Int.toNat_natCast, Array.getElem?_eq_none hx]
 refine wpAny_bind (wpAny_bind (wpAny_typeNameOfWhole_itemiter hT (wpAny_pure ?_)))
 show wpAny _ _ (setField (.ref it) 2 .none >>= _) _ _ _
 refine wpAny_bind (wpAny_setField hit rfl (by simp) ?_)
 show wpAny _ _ (newExc (.type "StopIteration") [] >>= _) _ _ _
 refine wpAny_bind ?_
 simp only [newExc, newTuple]
 refine wpAny_bind (wpAny_newObj_type ?_ (by size_fits))
 refine wpAny_bind (m := firstArgMember _ _) (wpAny_of_eq (a := Value.none) (by first | rfl | (simp only [firstArgMember]; rfl)) (wpAny_newObj_type ?_ (by size_fits)))
 simp only [raiseNew]
 refine wpAny_bind (wpAny_handled ?_)
 rw [show A.in1.handled = none from hh]
 refine wpAny_bind (wpAny_pure (wpAny_throw ?_))
 refine wpAny_bind (wpAny_isInstance (T := "StopIteration") (b := true) ⟨_, Heap.get?_push_size _ rfl, rfl⟩ isSubtype_stop ?_)
 exact wpAny_pure (k _ (((Heap.SameBut.update ..).extBut.push _).push _))
theorem qad {v : Addr} {Q : Value → Shared → Prop} (hv : s.heap.IsItemsView v d) (hod : s.heap.get? d = some od) (hdd : od.data = .dict es ep)
  (k : Q (.ref s.heap.objs.size) { s with heap := s.heap.push { cls := .type "dict_itemiterator", data := .fields #[.none, .bool false, .ref d, .int 0 0, .int es.size 0, .int ep 0, .none, .none] } }) : wpAny (model prog w) A (pyIter (.ref v)) Q E s := by
 obtain ⟨o, ho, hc, hd⟩ := id hv
 refine wpAny_pyIter_slot hv.typeIs F.slot_dict_items_iter (wpAny_call_entry F.slot_dict_items_iter hv.typeIs F.entry_dict_items_iter ?_ (F.args_dict_items_iter_1 _))
 unfold Builtin.«dict_items.__iter__»
 refine wpAny_bind (wpAny_pure (wpAny_bind ?_))
 unfold Builtin.Dict_items.dictOf
 refine wpAny_bind (wpAny_field ho hd (x := .ref d) rfl (wpAny_pure (wpAny_bind ?_)))
 unfold Builtin.Dict_items.newIterator
 refine wpAny_bind (wpAny_dictEntries hod hdd (wpAny_bind (wpAny_dictEpoch hod hdd ?_)))
 have own : Builtin.Dict_items.ownsTuple "dict_itemiterator" = true := by decide
 simp only [own, if_true]
 refine wpAny_newObj_type (wpAny_pure ⟨_, rfl, "dict_itemiterator", _, ⟨_, Heap.get?_push_size _ rfl, rfl⟩, F.slot_dict_itemiterator_next.lookup, ?_⟩)
  (by simp only [sizeOk, Builtin.Dict_items.ownedTupleFields, List.size_toArray, List.length_append, List.length_cons, List.length_nil, sizeLine_eq]; omega)
 simpa [rawInt, Builtin.Dict_items.ownedTupleFields] using k
end
def q8m (H : Hp) (u : HO) (ps : List (V × V)) : Prop := match u with
 | .dK kvs => ps = kvs.map fun p => (kV p.1, p.2)
 | .dT kvs => Paired (fun (kv : List Key × V) (p : V × V) => (∃ q, p.1 = .ref q ∧ H q = some (.tup (kv.1.map kV))) ∧ p.2 = kv.2) kvs ps
 | _ => False
def qao (es : List DictEntry) (ps : List (V × V)) : Prop := Paired (fun (e : DictEntry) (p : V × V) => RelV p.1 e.key ∧ RelV p.2 e.val) es ps
theorem qao.get : ∀ {es : List DictEntry} {ps : List (V × V)} {i : Nat} {p : V × V}, qao es ps → ps[i]? = some p → ∃ e, es[i]? = some e ∧ RelV p.1 e.key ∧ RelV p.2 e.val
 | _, _, _, _, .nil, e => by simp at e
 | _, _, 0, _, .cons r _, e => by simp at e; subst e; exact ⟨_, rfl, r⟩
 | _, _, i + 1, p, .cons _ t, e => by
  obtain ⟨x, h1, h2⟩ := qao.get (i := i) (p := p) t (by simpa using e)
  exact ⟨x, by simpa using h1, h2⟩
theorem qj4 {P : Program} {w : World} : ∀ {kvs : List (Key × V)} {vs : List (Key × Value)} {es : List DictEntry}, KV kvs vs → Pairs (q11 P w) es vs → qao es (kvs.map fun (p : Key × V) => (kV p.1, p.2))
 | _, _, _, .nil, .nil => .nil
 | (k, v) :: kvs, _, _, .cons r t, .cons (e := e) h1 h2 h3 => by
  refine .cons ⟨?_, ?_⟩ (qj4 t h3)
  ·have h1' : q8c k e.key = true := by
    have := h1
    rw [← r.1] at this
    exact this
   rcases q14 h1' with ⟨i, t, z, y⟩ | ⟨x, t, z, y⟩
   ·rw [z]; exact ⟨t, y⟩
   ·rw [z]; exact ⟨t, y⟩
  ·rw [h2]; exact r.2
theorem qi7 {P : Program} {w : World} {H : Hp} : ∀ {kvs : List (List Key × V)} {xs : List (List Key × Addr × Value)}, Paired (fun (p : List Key × V) (q : List Key × Addr × Value) => p.1 = q.1 ∧ H q.2.1 = some (.tup (p.1.map kV)) ∧ RelV p.2 q.2.2) kvs xs →
  ∃ ps, q8m H (.dT kvs) ps ∧ qao (xs.map (entryOfKey (tupleKind (q11 P w)))) ps
 | _, _, .nil => ⟨[], .nil, .nil⟩
 | (k, v) :: kvs, (k', q, u) :: xs, .cons r t => by
  obtain ⟨ps, h1, h2⟩ := qi7 (P := P) (w := w) t
  exact ⟨(.ref q, v) :: ps, .cons ⟨⟨q, rfl, r.2.1⟩, rfl⟩ h1, .cons ⟨rfl, r.2.2⟩ h2⟩
theorem qiz {P : Program} {w : World} {H : Hp} {h : Heap} {d : Addr} {u : HO} (ok : HOk P w H h) (hd : H d = some u) (hu : isD u) : (d == sysModules) = false ∧ ∃ o es ep ps, h.get? d = some o ∧ o.cls = .type "dict" ∧ o.dict = none ∧ o.data = .dict es ep ∧ q8m H u ps ∧ qao es.toList ps := by
 cases u with
 | dK kvs =>
  obtain ⟨_, lo, vs, kv, o, es, ep, ho, hx, hdd, hk, hp, hn⟩ := (show q1h P w H h d (.dK kvs) from ok d _ hd)
  exact ⟨lo, o, es, ep, kvs.map (fun (p : Key × V) => (kV p.1, p.2)), ho, hx.1, hx.2.1, hdd, rfl, qj4 kv hp⟩
 | dT kvs =>
  obtain ⟨_, lo, xs, pr, o, es, ep, ho, hx, hdd, he, hn⟩ := (show q1h P w H h d (.dT kvs) from ok d _ hd)
  obtain ⟨ps, h1, h2⟩ := qi7 (P := P) (w := w) pr
  rw [← he] at h2
  exact ⟨lo, o, es, ep, ps, ho, hx.1, hx.2.1, hdd, h1, h2⟩
 | _ => exact hu.elim
section
variable {X : Cx}
theorem q6a : MtR X "dict.items" (fun x vs H Q => ∃ d u, x = .ref d ∧ vs = [] ∧ H d = some u ∧ isD u ∧ ∀ v, H v = none → Q (.ref v) (upd H v (.ext fun h => h.IsItemsView v d))) := by
 intro pins s σ H x vs v us Q I rx rv h
 obtain ⟨d, u, rfl, rfl, hd, hu, q⟩ := h
 cases rx
 have hus := rv.zero
 subst hus
 obtain ⟨lo, o, es, ep, ps, ho, hc, _⟩ := qiz I.hok hd hu
 have hT : s.TypeIs (.ref d) "dict" := ⟨o, ho, hc⟩
 refine wpAny_call (codeAny_call_builtin F.slot_dict_items.plain F.entry_dict_items (F.slot_dict_items.check _ _ _ _ _ _ _ _ hT (F.args_dict_items_1 _) ?_))
 unfold Builtin.«dict.items»
 refine wpAny_bind ?_
 unfold Builtin.Dict.noArgs
 refine wpAny_bind (wpAny_notOrdered_dict hT ?_)
 show wpAny _ _ (pure d) _ _ s
 refine wpAny_pure ?_
 show wpAny _ _ (Builtin.Dict.showsAll d >>= _) _ _ s
 unfold Builtin.Dict.showsAll
 rw [if_neg (by rw [lo]; exact Bool.false_ne_true)]
 refine wpAny_bind (wpAny_pure (wpAny_bind (wpAny_newObj_type (wpAny_pure ?_))))
 have new : (s.heap.push { cls := .type "dict_items", data := .fields #[.ref d] }).IsItemsView s.heap.objs.size d := ⟨_, Heap.get?_push_size _ rfl, rfl, rfl⟩
 refine ⟨.ref s.heap.objs.size, _, I.laid (t' := s.toks) (o := .ext fun h => h.IsItemsView s.heap.objs.size d) (fun b ob q => Heap.get?_push_of_some _ q) (Nat.le_refl _) ⟨new, ⟨_, Heap.get?_push_size _ rfl⟩, fun h1 h2 ⟨o, a, b⟩ k => ⟨o, k o a, b⟩⟩, rfl, q _ (I.hok.fresh (Nat.le_refl _))⟩
end
end L2
end
section
namespace L2
open PySem PySem.Spec PyProof.Rows
section
variable {X : Cx}
def repS (x : Str) (n : Int) : Str := if n < 1 then Str.empty else if (n == 1 || x.length == 0) = true then x else ⟨(List.replicate n.toNat x.cps).foldl (· ++ ·) #[]⟩
theorem q6u {α : Type} (a : Array α) : ∀ (n : Nat) (b : Array α), ((List.replicate n a).foldl (· ++ ·) b).size = b.size + n * a.size
 | 0, b => by simp
 | n + 1, b => by
  rw [List.replicate_succ, List.foldl_cons, q6u a n, Array.size_append, Nat.succ_mul]
  omega
theorem q6r : OpR X (binaryOp .Mult) (fun x y H Q => ∃ (z : Str) (n : Int), x = .str z ∧ y = .int n ∧ -1000 ≤ n ∧ n ≤ 1000 ∧ z.length ≤ 1000 ∧ Q (.str (repS z n)) H) := by
 intro pins s σ H x y v u Q I rx ry h
 obtain ⟨z, n, rfl, rfl, h1, h2, h3, q⟩ := h
 obtain ⟨t, rfl⟩ := rx
 obtain ⟨t', rfl⟩ := ry
 refine P.mul_str (by rw [Bool.or_eq_false_iff]; exact ⟨decide_eq_false (by omega), decide_eq_false (by omega)⟩) (fun hn _ => ?_) (fun hn _ => ?_) ?_
 ·have : (z.length : Int) ≤ 1000 := by omega
  have h4 : (1000 : Int) ≤ (2 ^ 63 - 1) / n := by
   apply Int.le_ediv_of_mul_le (by omega)
   have : 1000 * n ≤ 1000 * 1000 := by omega
   omega
  omega
 ·have h5 : z.length * n.toNat ≤ 1000 * 1000 := Nat.mul_le_mul h3 (by omega)
  have h6 : sizeLine = 16777216 := sizeLine_eq
  exact decide_eq_false (by omega)
 ·unfold repS at q
  split
  ·rename_i c
   rw [if_pos c] at q
   exact ⟨by decide, .str _, H, I.tok _, ⟨_, rfl⟩, q⟩
  ·rename_i c
   rw [if_neg c] at q
   split
   ·rename_i c2
    rw [if_pos c2] at q
    exact ⟨.str _, H, I, ⟨_, rfl⟩, q⟩
   ·rename_i c2
    rw [if_neg c2] at q
    refine ⟨?_, .str _, H, I.tok _, ⟨_, rfl⟩, q⟩
    have h6 : sizeLine = 16777216 := sizeLine_eq
    have h5 : n.toNat * z.length ≤ 1000 * 1000 := Nat.mul_le_mul (by omega) h3
    have h7 := q6u z.cps n.toNat #[]
    show ((List.replicate n.toNat z.cps).foldl (· ++ ·) #[]).size ≤ _
    rw [h7]
    have h8 : n.toNat * z.cps.size ≤ 1000 * 1000 := h5
    show 0 + n.toNat * z.cps.size ≤ _
    omega
theorem qbr : ∀ {xs : List V} {us : List Value}, xs.length = us.length → (∀ (j : Nat) u, us[j]? = some u → ∃ x, xs[j]? = some x ∧ RelV x u) → Vals xs us
 | [], [], _, _ => .nil
 | [], _ :: _, h, _ => by simp at h
 | _ :: _, [], h, _ => by simp at h
 | x :: xs, u :: us, h, k => by
  obtain ⟨y, e, r⟩ := k 0 u rfl
  simp at e
  subst e
  exact .cons r (qbr (by simpa using h) fun j v e => by simpa using k (j + 1) v (by simpa using e))
theorem qbi : ∀ {kvs : List (Key × V)} {vs : List (Key × Value)} {j : Nat} {k : Key} {x : Value}, KV kvs vs → vs[j]? = some (k, x) → ∃ v, kvs[j]? = some (k, v) ∧ RelV v x
 | _, _, _, _, _, .nil, e => by simp at e
 | (k', v') :: _, (k2, x2) :: _, 0, k, x, .cons r _, e => by
  simp at e
  obtain ⟨rfl, rfl⟩ := e
  have h1 : k' = k2 := r.1
  subst h1
  exact ⟨v', rfl, r.2⟩
 | _, _, j + 1, k, x, .cons _ t, e => by
  obtain ⟨v, e1, r⟩ := qbi (j := j) t (by simpa using e)
  exact ⟨v, by simpa using e1, r⟩
theorem q9t (hc : X.calm = true) : q55 X (.type "list") (fun xs H Q => ∃ (d : Addr) (kvs : List (Key × V)), xs = [.ref d] ∧ H d = some (.dK kvs) ∧ ∀ p, H p = none → Q (.ref p) (upd H p (.lst (kvs.map fun (q : Key × V) => kV q.1)))) := by
 intro pins s σ H xs us Q I r h
 obtain ⟨d, kvs, rfl, hd, q⟩ := h
 obtain ⟨u, rfl, ru⟩ := q6g r
 obtain rfl : u = Value.ref d := ru
 obtain ⟨hz, lo, vs, kv, o, es, ep, ho, hx, hdd, hk, hp, hn⟩ := (show q1h X.prog X.w H s.heap d (.dK kvs) from I.hok d _ hd)
 have hl : vs.length = kvs.length := (Paired.length kv).symm
 refine PySem.W.kdl_call (PySem.W.kdl_dict (knd := q11 X.prog X.w) (kvs := vs) (ep := ep) lo) (I.ok.hd hc) ⟨o, es, ho, hx, hdd, hk, hp, hn⟩ (by rw [hl]; exact hz) fun h' tk acc c kp hD hacc => ?_
 have hv : Vals (kvs.map fun (q : Key × V) => kV q.1) acc.toList := by
  have h9 : acc.toList.length = vs.length := by simpa using hacc.1
  refine qbr (by rw [List.length_map, h9, hl]) fun j u e => ?_
  obtain ⟨k, x, e1, e2⟩ := hacc.2 j u (by rw [← Array.getElem?_toList]; exact e)
  obtain ⟨v, e3, _⟩ := qbi kv e1
  refine ⟨kV k, by rw [List.getElem?_map, e3]; rfl, ?_⟩
  rcases q14 e2 with ⟨i, t, z, y⟩ | ⟨x, t, z, y⟩
  ·rw [z]; exact ⟨t, y⟩
  ·rw [z]; exact ⟨t, y⟩
 refine ⟨.ref s.heap.objs.size, _, I.laid (t' := tk) (o := .lst (kvs.map fun (q : Key × V) => kV q.1)) kp (Nat.le_refl _) ⟨by rw [List.length_map]; exact hz, acc.toList, c, hv, by simpa using hD⟩, rfl, q _ (I.hok.fresh (Nat.le_refl _))⟩
end
end L2
end
section
namespace L2
open PySem PySem.Spec PyProof.Rows
section
variable {X : Cx} {tg : Expr}
end
section
variable {X : Cx}
end
end L2
end
section
namespace L2
open PySem PySem.Spec PyProof.Rows
section
variable {prog : Program} {w : World} {A : Around} {R : Result → Shared → Prop} {s : Shared}
end
section
variable {X : Cx} {k : Nat} {ps : List Str} {sp : Sp} {x : Str} {p pos : Pos} {e : Expr} {es : List Expr} {t : TA}
end
section
variable {X : Cx} {pins : List (Addr × Obj)} {σ : St} {H : Hp} {s : Shared} {ea : Addr} {cls fl : Value} {B h' : Heap} {C : Addr}
end
section
variable {X : Cx} {elt target iter : Expr} {ifs : List Expr} {scope : Scope} {cl : List (Str × Addr)} {pos spos py : Pos} {NB : List Str} {ix : List (Option Nat)} {wi : TI} {g : TG} {tc : TT} {te : TEb}
end
end L2
end
section
namespace L2
open PySem PySem.Spec PyProof.Rows
section
variable {X : Cx} {k : Nat} {C : Addr} {ps : List Str} {sp : Sp} {x m : Str} {p pos apos : Pos} {e o : Expr} {es : List Expr} {to : TEx} {t : TA}
def qis (C : Addr) (m : Str) (sp : Sp) (to : TEx) (t : TA) : TEx := fun xk σ H Q => to xk σ H fun x H1 => ∃ a dx fs, x = .ref a ∧ H1 a = some (.ins C dx fs) ∧ fs.lookup m = none ∧ t σ H1 fun vs H2 => sp (.ref a :: vs ++ []) H2 Q fun cls _ H3 => xk σ cls H3
theorem qhi {pl : Sem Bool} (fx : FnCx X) (D : Md X.prog X.w X.K X.mg X.base CX0 C k m ps sp) (hr : Room k X.A) (ho : PEX X o to) (ha : PA X.nox (e :: es) t)
  (hst : starEach (e :: es) X.env = (false, eval e X.env) :: starEach es X.env := by rfl) (hpl : (backTo pos (starEach es X.env)).any (·.1) = false := by rfl)
  (ht : eval (.Call (.Attribute o m apos) (e :: es) [] pos) X.env = (do
   let ov ← eval o X.env
   standAt apos.atName
   let (f, first) ← holding [ov] (getMethod ov m pl)
   callWith pos f first (backTo pos (starEach (e :: es) X.env)) (backToKw pos (keywordEach [] X.env))) := by rfl) :
  PEX X (.Call (.Attribute o m apos) (e :: es) [] pos) (qis C m sp to t) := by
 obtain ⟨f, fd, hm, hb, F⟩ := D.ex
 intro pins s σ H Q xk I h
 refine PySem.W.methodCall_KW (pl := pl) (wpAny_mono (ho pins s σ H _ xk I h) (fun u s1 ⟨x, H1, I1, rx, a, dx, fs, ex, ea, l, q⟩ => ?_) fun _ _ z => z) ht
 subst ex
 obtain rfl : u = Value.ref a := rx
 refine q3b I1 ea D.cl hm l ?_
 refine PySem.W.callWith_K (first := [.ref a]) (h₀ := X.base) I.ok.mod.kin hm.kp (wpAny_mono (ha pos pins s1 σ H1 _ (I1.wish _) q) (fun us s2 ⟨vs, H2, I2, r, q2⟩ => ⟨I2.unwish.kIn, ?_⟩) fun _ _ z => z.elim) hst hpl
 exact q8i (us := .ref a :: us) (vs := .ref a :: vs) F.lift hr hb fx I2.unwish (.cons rfl r) q2
end
def qij (t : TEx) : TX := fun D xk σ H => t xk σ H fun _ H1 => D.nx σ H1
theorem q7h {X : Cx} {e : Expr} {pos : Pos} {t : TEx} (he : PEX X e t) (hs : swapsWith e none pos.line X.env = pure false := by rfl) : PSX X (.Expr e pos) (qij t) := qen he hs
theorem qd6 {K : PySem.W.Frag} {a : Addr} {xs : List V} {g : TG} {tb : TX} {D : Ends} {xk : XKs} {σ : St} {H : Hp} (Pv : Nat → St → Hp → Prop) (h0 : Pv 0 σ H) (hl : ∀ i σ H, i ≤ xs.length → Pv i σ H → SqL K H a xs)
  (hs : ∀ i x σ H, xs[i]? = some x → Pv i σ H → g x σ H fun σ2 H2 => tb { D with nx := Pv (i + 1), ct := Pv (i + 1), bk := D.nx } xk σ2 H2) (hd : ∀ σ H, Pv xs.length σ H → D.nx σ H) :
  ∃ W : Nat → Nat → St → Hp → Prop, (∃ m, W 0 m σ H) ∧ ∀ i m σ H, W i m σ H →
   ((Itl K a).stop i H ∧ D.nx σ H) ∨ ((Itl K a).go i H ∧ ∃ N : St → Hp → Prop, (∀ σ' H', N σ' H' → ∃ m', m' < m ∧ W (i + 1) m' σ' H') ∧ ∀ x H', (Itl K a).yld i H x H' → g x σ H' fun σ2 H2 => tb { D with nx := N, ct := N, bk := D.nx } xk σ2 H2) :=
 q1u (tb := fun D' σ' H' => tb D' xk σ' H') Pv h0 hl hs hd
theorem q77 {K : PySem.W.Frag} {j : Nat} {ix : List (Option Nat)} {g : TG} {tc : TT} {te : TE} {σ : St} {H : Hp} {a : Addr} {xs : List V} {Q : VK} (hv : σ[j]? = some (some (.ref a))) (hq : SqL K H a xs)
  (h : ∀ D0, H D0 = none → ∃ Pv : Nat → St → List V → Hp → Prop, Pv 0 (q89 ix σ) [] (upd H D0 (.lst [])) ∧ (∀ i σ ys H, i ≤ xs.length → Pv i σ ys H → SqL K H a xs ∧ H D0 = some (.lst ys)) ∧
   (∀ i x σ ys H, xs[i]? = some x → Pv i σ ys H → g x σ H fun σ2 H2 => tc σ2 H2 fun b H3 =>
    if b = true then te σ2 H3 fun y H4 => H4 D0 = some (.lst ys) ∧ ys.length < sizeLine ∧ Pv (i + 1) σ2 (ys ++ [y]) (upd H4 D0 (.lst (ys ++ [y]))) else Pv (i + 1) σ2 ys H3) ∧
   ∀ σ' ys H', Pv xs.length σ' ys H' → Q (.ref D0) H') : qg4 (qh9 K (tVar j)) ix g tc te σ H Q :=
 ⟨.ref a, hv, a, rfl, ⟨xs, hq⟩, fun D0 hD => let ⟨Pv, h0, h1, h2, h3⟩ := h D0 hD; q32 (Q := Q) Pv h0 h1 h2 h3⟩
end L2
end
section
namespace L2
open PySem PySem.Spec PyProof.Rows
section
variable {X : Cx} {pins : List (Addr × Obj)} {σ : St} {H : Hp} {s : Shared} {a : Addr} {o : HO}
theorem Inv.track (I : Inv X pins σ H s) (f : FpOk X pins H a) (new : q1h X.prog X.w (upd H a o) s.heap a o) : Inv X pins σ (upd H a o) s := by
 obtain ⟨hn, nl, nf, na, nc, np⟩ := f
 refine ⟨I.ok, I.os, I.bare, ⟨I.base.keep, I.base.slot, fun b ob e n hx => ?_, I.base.there, fun b xs e => ?_, fun b ob u e => ?_, fun b ps e => ?_⟩, I.loc, I.cell, ?_, fun x c e => ?_, fun p hp => ?_, fun b u e => ?_, I.len⟩
 ·have nb : b ≠ a := fun z => by
   rcases na with y | y
   ·exact hx (by rw [z]; exact y)
   ·have := Heap.lt_size e
    rw [z] at this
    exact absurd (Nat.lt_of_lt_of_le this y) (Nat.lt_irrefl _)
  rw [q08 nb]; exact I.base.free b ob e n hx
 ·rw [q08 (q09 (I.base.tups b xs e) hn)]; exact I.base.tups b xs e
 ·rw [q08 (q09 (I.base.frzs b ob u e) hn)]; exact I.base.frzs b ob u e
 ·obtain ⟨more, q⟩ := I.base.tbls b ps e
  exact ⟨more, by rw [q08 (q09 q hn)]; exact q⟩
 ·rw [q08 (Ne.symm nl)]; exact I.free
 ·rw [q08 (nc x c e)]; exact I.freeC x c e
 ·obtain ⟨a1, a2, a3⟩ := I.pin p hp
  exact ⟨a1, by rw [q08 (np p hp)]; exact a2, a3⟩
 ·by_cases hb : b = a
  ·subst hb
   rw [q05] at e
   cases e
   exact new
  ·rw [q08 hb] at e
   exact (I.hok b u e).stay (fun _ _ _ q => q) (fun c q => by rw [q08 (q09 q hn)]; exact q) fun c xs q => by rw [q08 (q09 q hn)]; exact q
theorem Inv.trackT : ∀ {as : List Addr} {ps : List (V × V)} {H : Hp}, Inv X pins σ H s → as.length = ps.length → as.Nodup → (∀ a ∈ as, FpOk X pins H a) →
  (∀ (j : Nat) a p, as[j]? = some a → ps[j]? = some p → ∃ u v, RelV p.1 u ∧ RelV p.2 v ∧ s.heap.get? a = some { cls := .type "tuple", data := .seq #[u, v] }) →
  ∃ H', Inv X pins σ H' s ∧ Kp [] H H' ∧ (∀ b, b ∉ as → H b = none → H' b = none) ∧ ∀ (j : Nat) a p, as[j]? = some a → ps[j]? = some p → H' a = some (.tup [p.1, p.2])
 | [], _, H, I, _, _, _, _ => ⟨H, I, Kp.refl _ _, fun _ _ h => h, fun j a p e => by simp at e⟩
 | a :: as, [], _, _, hl, _, _, _ => by simp at hl
 | a :: as, p :: ps, H, I, hl, nd, hf, hp => by
  obtain ⟨u, v, ru, rv, ho⟩ := hp 0 a p rfl rfl
  have fa := hf a (.head _)
  have I1 : Inv X pins σ (upd H a (.tup [p.1, p.2])) s := I.track fa ⟨(by show 2 ≤ sizeLine; decide), [u, v], .cons ru (.cons rv .nil), ⟨_, ho, rfl, _, rfl⟩⟩
  rw [List.nodup_cons] at nd
  obtain ⟨H', I', kp, fr, at'⟩ := Inv.trackT (as := as) (ps := ps) I1 (by simpa using hl) nd.2 (fun b hb => ⟨by rw [q08 (fun z => nd.1 (by rw [← z]; exact hb))]; exact (hf b (.tail _ hb)).1, (hf b (.tail _ hb)).2⟩)
   fun j b q e1 e2 => hp (j + 1) b q (by simpa using e1) (by simpa using e2)
  refine ⟨H', I', (Kp.new fa.1).trans kp, fun b hb hn => fr b (fun z => hb (.tail _ z)) (by rw [q08 (fun z => hb (by rw [z]; exact .head _))]; exact hn), fun j b q e1 e2 => ?_⟩
  cases j with
  | zero =>
   simp at e1 e2
   subst e1 e2
   exact kp.get q05 nEm
  | succ j => exact at' j b q (by simpa using e1) (by simpa using e2)
end
structure Itms (H : Hp) (as : List Addr) (kvs : List (Key × V)) : Prop where
 len : as.length = kvs.length
 at_ : ∀ (j : Nat) a kv, as[j]? = some a → kvs[j]? = some kv → H a = some (.tup [kV kv.1, kv.2])
theorem q44 : ∀ {as : List Addr}, as.Pairwise (· < ·) → as.Nodup
 | [], _ => List.nodup_nil
 | a :: as, h => by
  rw [List.pairwise_cons] at h
  rw [List.nodup_cons]
  exact ⟨fun z => Nat.lt_irrefl _ (h.1 a z), q44 h.2⟩
theorem q3w : ∀ (as : List Addr), Vals (as.map V.ref) (as.map Value.ref)
 | [] => .nil
 | a :: as => .cons rfl (q3w as)
section
variable {X : Cx}
theorem q5r {pins : List (Addr × Obj)} {σ : St} {H : Hp} {s : Shared} {kvs : List (Key × V)} {vs : List (Key × Value)} {h' : Heap} {tk : Nat} {lo : Addr} {as : List Addr} (I : Inv X pins σ H s) (kv : KV kvs vs) (hs : s.heap.objs.size ≤ lo) (kp : ∀ b o, s.heap.get? b = some o → h'.get? b = some o)
  (hl : as.length = vs.length) (G : PySem.W.KdxG (q11 X.prog X.w) vs lo h' as) : ∃ H', Inv X pins σ H' { s with heap := h', toks := tk } ∧ Kp [] H H' ∧ Itms H' as kvs ∧ ∀ b, b ∉ as → H b = none → H' b = none := by
 have I1 : Inv X pins σ H { s with heap := h', toks := tk } := I.kept kp
 have hk : as.length = (kvs.map fun (p : Key × V) => (kV p.1, p.2)).length := by rw [List.length_map, hl, Paired.length kv]
 obtain ⟨H', I', k', fr, at'⟩ := Inv.trackT (ps := kvs.map fun (p : Key × V) => (kV p.1, p.2)) I1 hk (q44 G.rise) (fun a ha => I.fpOk (Nat.le_trans hs (Nat.le_of_lt (G.above a ha))) (I.hok.fresh (Nat.le_trans hs (Nat.le_of_lt (G.above a ha))))) (fun j a p e1 e2 => by
  rw [List.getElem?_map] at e2
  cases e3 : kvs[j]? with
  | none => rw [e3] at e2; cases e2
  | some q =>
   rw [e3] at e2
   cases e2
   obtain ⟨key, k, x, e4, e5, e6⟩ := G.pairs j a e1
   obtain ⟨v, e7, r⟩ := qbi kv e4
   rw [e3] at e7
   cases e7
   refine ⟨key, x, ?_, r, e6⟩
   rcases q14 e5 with ⟨i, t, z, y⟩ | ⟨x, t, z, y⟩
   ·rw [z]; exact ⟨t, y⟩
   ·rw [z]; exact ⟨t, y⟩)
 refine ⟨H', I', k', ⟨by rw [hk, List.length_map], fun j a q e1 e2 => ?_⟩, fr⟩
 exact at' j a (kV q.1, q.2) e1 (by rw [List.getElem?_map, e2]; rfl)
theorem qac (hc : X.calm = true) : q55 X (.type "list") (fun xs H Q => ∃ (v d : Addr) (kvs : List (Key × V)), xs = [.ref v] ∧ H v = some (.ext fun h => h.IsItemsView v d) ∧ H d = some (.dK kvs) ∧
  ∀ p as H', H p = none → H' p = some (.lst (as.map V.ref)) → Itms H' as kvs → Kp [] H H' → Q (.ref p) H') := by
 intro pins s σ H xs us Q I r h
 obtain ⟨v, d, kvs, rfl, hv, hd, q⟩ := h
 obtain ⟨u, rfl, ru⟩ := q6g r
 obtain rfl : u = Value.ref v := ru
 obtain ⟨vw, _⟩ := I.hok v _ hv
 obtain ⟨hz, lo, vs, kv, o, es, ep, ho, hx, hdd, hk, hp, hn⟩ := (show q1h X.prog X.w H s.heap d (.dK kvs) from I.hok d _ hd)
 have hl : vs.length = kvs.length := (Paired.length kv).symm
 refine PySem.W.kdx_call (knd := q11 X.prog X.w) (kvs := vs) (ep := ep) (I.ok.hd hc) vw ⟨o, es, ho, hx, hdd, hk, hp, hn⟩ (by rw [hl]; exact hz) fun h' tk acc c as kp hS hlen G hacc => ?_
 obtain ⟨H', I', k', T, fr⟩ := q5r (tk := tk) I kv (Nat.le_refl _) kp hlen G
 have nS : s.heap.objs.size ∉ as := fun z => absurd (G.above _ z) (Nat.lt_irrefl _)
 have fS : FpOk X pins H' s.heap.objs.size := I.fpOk (Nat.le_refl _) (fr _ nS (I.hok.fresh (Nat.le_refl _)))
 have hv' : Vals (as.map V.ref) acc.toList := by rw [hacc]; exact q3w as
 have I2 : Inv X pins σ (upd H' s.heap.objs.size (.lst (as.map V.ref))) { s with heap := h', toks := tk } := I'.track fS ⟨by rw [List.length_map, hlen, hl]; exact hz, acc.toList, c, hv', by simpa using hS⟩
 refine ⟨.ref s.heap.objs.size, _, I2, rfl, q _ as _ (I.hok.fresh (Nat.le_refl _)) q05 ⟨T.len, fun j a kv e1 e2 => ?_⟩ (k'.trans (Kp.new fS.1))⟩
 rw [q08 (q09 (T.at_ j a kv e1 e2) fS.1)]
 exact T.at_ j a kv e1 e2
end
section
variable {prog : Program} {w : World} {A : Around} {E : Value → Shared → Prop} {s : Shared}
theorem qaf {a : Addr} {us : List Value} {n : Nat} {G : PySem.Fin → Shared → Prop} (ho : s.heap.get? a = some (seqObj "list" us.toArray n)) (hs : us.length < 2)
  (k : ∀ h' c, (∀ b ob, b ≠ a → s.heap.get? b = some ob → h'.get? b = some ob) → h'.get? a = some (seqObj "list" us.toArray c) → G (.done (.ret .none)) { s with heap := h' }) :
  wpAny (model prog w) A (Builtin.«list.sort» ⟨[.ref a], []⟩) G E s := by
 have lt : a < s.heap.objs.size := Heap.lt_size ho
 have z : us.toArray.size < 2 := by simpa using hs
 rw [list_sort_plain]
 refine wpAny_bind (listItems_at ho rfl (wpAny_bind (listUpdate_at ho rfl ?_ (by simp; exact Nat.le_trans (Nat.le_of_lt hs) (by decide)) (Nat.zero_le _))))
 have g1 := get?_update_seq ho (fun _ => (#[] : Array Value))
 have b1 := Heap.SameBut.update s.heap a (Obj.mapSeq fun _ => (#[] : Array Value))
 generalize s.heap.update a (Obj.mapSeq fun _ => (#[] : Array Value)) = g at g1 b1
 refine wpAny_bind (seqEpoch_at g1 rfl (wpAny_bind (wpAny_newTuple (wpAny_bind (wpAny_newList (wpAny_holding ?_))))))
 rw [if_pos z, if_pos z]
 refine wpAny_bind (wpAny_pure ?_)
 dsimp only
 rw [StateT.run_pure]
 refine wpAny_bind (wpAny_pure ?_)
 dsimp only
 have ga : a < g.objs.size := by rw [b1.1]; exact lt
 have g2 := Heap.get?_push_of_some (seqObj "list" #[] 0) (Heap.get?_push_of_some (seqObj "tuple" us.toArray 0) g1)
 have kg : ∀ b ob, b ≠ a → s.heap.get? b = some ob → ((g.push (seqObj "tuple" us.toArray 0)).push (seqObj "list" #[] 0)).get? b = some ob := fun b ob nb q => Heap.get?_push_of_some _ (Heap.get?_push_of_some _ ((b1.2 b nb).trans q))
 have es : (us.toArray.zip us.toArray).map (·.2) = us.toArray := by
  match us, hs with
  | [], _ => simp
  | [u], _ => simp
 have ef : arrOf (SortSt.mk' general' (us.toArray.zip us.toArray) #[] 7 none) = us.toArray.zip us.toArray := rfl
 show wpAny (model prog w) A _ G E { s with heap := (g.push (seqObj "tuple" us.toArray 0)).push (seqObj "list" #[] 0) }
 generalize (g.push (seqObj "tuple" us.toArray 0)).push (seqObj "list" #[] 0) = g' at g2 kg
 refine wpAny_bind (seqEpoch_at g2 rfl ?_)
 rw [ef, es]
 refine wpAny_bind (listUpdate_at g2 rfl ?_ (Nat.zero_le _) (by simp; exact Nat.le_trans (Nat.le_of_lt hs) (by decide)))
 have g3 := get?_update_seq g2 (fun _ => us.toArray)
 have b3 := Heap.SameBut.update g' a (Obj.mapSeq fun _ => us.toArray)
 simp only [bne_self_eq_false, Bool.false_eq_true, if_false]
 exact wpAny_pure (k _ _ (fun b ob nb q => (b3.2 b nb).trans (kg b ob nb q)) g3)
end
section
variable {X : Cx}
end
section
variable {X : Cx} {K : PySem.W.Frag}
theorem qh6 {e : Expr} {f : Str} {pos : Pos} {ta : TE} (hK : X.K = K) (he : PE X e ta) (hb : attributeBase e f X.env (eval e X.env) = eval e X.env) : PE X (.Attribute e f pos) (tFld K ta f) := by subst hK; exact q12 he hb
theorem qgs {T id : String} {name : Str} {o : Expr} {to : TE} {apos cpos : Pos} {r : V → List V → Hp → VK → Prop} (hK : X.K = K) (pa : PlainAttrs T) (slot : Slot T name id) (hty : typeOf (.builtin id) = pure (.type "method_descriptor")) (hm : MtR X id r) (ho : PE X o to)
  (hbase : attributeBase o name X.env (eval o X.env) = eval o X.env := by rfl) (hline : (apos.endLine == cpos.line) = true := by rfl) : PE X (.Call (.Attribute o name apos) [] [] cpos) (tBM0 K T r to) := by subst hK; exact qbn pa slot hty hm ho hbase hline
end
section
variable {X : Cx}
end
end L2
end
section
namespace L2
open PySem PySem.Spec PyProof.Rows
section
variable {prog : Program} {w : World} {A : Around} {E : Value → Shared → Prop} {s : Shared} {it d a : Addr} {od oa : Obj} {es : Array DictEntry} {i ep : Nat} {e : DictEntry} {ok ov : Value} {f : Bool}
theorem qd7 {Q : Option Value → Shared → Prop} (hit : PySem.W.KdxIt s.heap it d i es.size ep ok ov a f) (ha : s.heap.get? a = some oa) (na : a ≠ it) (hod : s.heap.get? d = some od) (hdd : od.data = .dict es ep) (hx : es[i]? = some e)
  (k : ∀ h', PySem.W.KdxIt h' it d (i + 1) es.size ep ok ov a true → h'.get? s.heap.objs.size = some { cls := .type "tuple", data := .seq #[e.key, e.val] } → h'.objs.size = s.heap.objs.size + 1 → (∀ b o, b ≠ it → s.heap.get? b = some o → h'.get? b = some o) → Q (some (.ref s.heap.objs.size)) { s with heap := h' }) :
  wpAny (model prog w) A (pyNext (.ref it)) Q E s := by
 obtain ⟨hp, g, dr, tk, os⟩ := s
 have hT : Shared.TypeIs ⟨hp, g, dr, tk, os⟩ (.ref it) "dict_itemiterator" := ⟨_, hit, rfl⟩
 have hi : i < es.size := (Array.getElem?_eq_some_iff.mp hx).1
 unfold pyNext
 refine wpAny_bind (wpAny_attempt (wpAny_callSpecial?_slot (name := Str.ofString "__next__") hT F.slot_dict_itemiterator_next (wpAny_call_entry F.slot_dict_itemiterator_next hT F.entry_dict_itemiterator_next ?_ (F.args_dict_itemiterator_next_1 _))))
 refine wpAny_bind (wpAny_pure (wpAny_bind (wpAny_bind ?_)))
 refine wpAny_bind (wpAny_typeNameOfWhole_itemiter hT (wpAny_pure (wpAny_bind (wpAny_fieldsOf hit rfl ?_))))
 have own : Builtin.Dict_items.ownsTuple "dict_itemiterator" = true := by decide
 simp only [own, if_true]
 have nn : ¬ (Value.ref d == Value.none) = true := Bool.false_ne_true
 show wpAny _ _ (if (Value.ref d == Value.none) = true then _ else _) _ _ _
 rw [if_neg nn]
 refine wpAny_bind (wpAny_pure (wpAny_bind (wpAny_dictEntries hod hdd ?_)))
 rw [if_neg (by simp)]
 refine wpAny_bind (wpAny_pure (wpAny_bind (wpAny_dictEpoch hod hdd ?_)))
 rw [if_neg (by simp)]
 refine wpAny_pure ?_
 have n0 : ¬ ((i : Int) < 0) := by omega
 simp only [n0, if_false, Int.toNat_natCast, hx]
 refine wpAny_bind (wpAny_bind (wpAny_typeNameOfWhole_itemiter hT (wpAny_pure ?_)))
 refine wpAny_bind (wpAny_isOneOf_itemiter hT ?_)
 show wpAny _ _ (setField (.ref it) 3 (rawInt ((i : Int) + 1)) >>= _) _ _ _
 refine wpAny_bind (wpAny_setField_rec hit (by simp) fun h1 q1 b1 => ?_)
 have b1 : Heap.SameBut it hp h1 := b1
 have q1 : PySem.W.KdxIt h1 it d (i + 1) es.size ep ok ov a f := by
  have z : ((i + 1 : Nat) : Int) = (i : Int) + 1 := by omega
  unfold PySem.W.KdxIt
  rw [z]
  simpa [rawInt] using q1
 have hT1 : Shared.TypeIs ⟨h1, g, dr, tk, os⟩ (.ref it) "dict_itemiterator" := ⟨_, q1, rfl⟩
 refine wpAny_bind (wpAny_holding (wpAny_bind (wpAny_isOneOf_itemiter hT1 (wpAny_bind (wpAny_isOneOf_itemiter hT1 ?_)))))
 show wpAny _ _ (Builtin.Dict_items.pairFromOwner (.ref it) 6 e.key e.val) _ _ _
 unfold Builtin.Dict_items.pairFromOwner
 refine wpAny_bind (wpAny_newTuple ?_)
 have z1 : h1.objs.size = hp.objs.size := b1.1
 have ne : hp.objs.size ≠ it := Nat.ne_of_gt (Heap.lt_size hit)
 have q2 : PySem.W.KdxIt (h1.push { cls := .type "tuple", data := .seq #[e.key, e.val] }) it d (i + 1) es.size ep ok ov a f := Heap.get?_push_of_some _ q1
 have t2 : (h1.push { cls := .type "tuple", data := .seq #[e.key, e.val] }).get? hp.objs.size = some { cls := .type "tuple", data := .seq #[e.key, e.val] } := by rw [← z1]; exact Heap.get?_push_size _ rfl
 have s2 : (h1.push { cls := .type "tuple", data := .seq #[e.key, e.val] }).objs.size = hp.objs.size + 1 := by rw [Heap.size_push, z1]
 have k2 : ∀ b o, b ≠ it → hp.get? b = some o → (h1.push { cls := .type "tuple", data := .seq #[e.key, e.val] }).get? b = some o := fun b o hb q => Heap.get?_push_of_some _ (b1.extBut b o hb q)
 generalize h1.push { cls := .type "tuple", data := .seq #[e.key, e.val] } = h2 at q2 t2 s2 k2
 show wpAny _ _ (Builtin.Dict_items.ownedTupleIsFree (.ref it) >>= _) _ _ _
 rw [z1]
 have last : ∀ h3 : Heap, PySem.W.KdxIt h3 it d (i + 1) es.size ep ok ov a true → Heap.SameBut it h2 h3 → Q (some (.ref hp.objs.size)) ⟨h3, g, dr, tk, os⟩ := fun h3 q3 b3 =>
  k h3 q3 (b3.extBut _ _ ne t2) (b3.1.trans s2) fun b o hb q => b3.extBut b o hb (k2 b o hb q)
 refine wpAny_bind ?_
 unfold Builtin.Dict_items.ownedTupleIsFree
 refine wpAny_bind (wpAny_field q2 rfl (x := rawInt a) rfl ?_)
 show wpAny _ _ (loadIfAlive ((a : Int).toNat) >>= _) _ _ _
 rw [Int.toNat_natCast]
 refine wpAny_bind (PySem.W.kdx_alive (k2 a oa na ha) ?_)
 simp only [Option.isNone_some, Bool.false_eq_true, if_false]
 refine wpAny_bind (wpAny_field q2 rfl (x := .bool f) rfl ?_)
 cases f with
 | true =>
  have c1 : ¬ (Value.bool true != Value.bool true) = true := Bool.false_ne_true
  rw [if_neg c1]
  refine wpAny_pure ?_
  simp only [Bool.false_eq_true, if_false]
  exact wpAny_pure (wpAny_pure ⟨_, rfl, wpAny_pure (last h2 q2 (Heap.SameBut.refl _ _))⟩)
 | false =>
  have c0 : (Value.bool false != Value.bool true) = true := rfl
  rw [if_pos c0]
  refine wpAny_bind (wpAny_setField_rec q2 (by simp) fun h3 q3 b3 => ?_)
  have b3 : Heap.SameBut it h2 h3 := b3
  have q3 : PySem.W.KdxIt h3 it d (i + 1) es.size ep ok ov a true := q3
  refine wpAny_pure ?_
  simp only [Bool.false_eq_true, if_false]
  exact wpAny_pure (wpAny_pure ⟨_, rfl, wpAny_pure (last h3 q3 b3)⟩)
theorem qcy {Q : Option Value → Shared → Prop} (hh : A.handled = none) (hit : PySem.W.KdxIt s.heap it d i es.size ep ok ov a f) (hod : s.heap.get? d = some od) (hdd : od.data = .dict es ep) (hx : es.size ≤ i)
  (k : ∀ h', Heap.ExtBut it s.heap h' → Q none { s with heap := h' }) : wpAny (model prog w) A (pyNext (.ref it)) Q E s := by
 obtain ⟨hp, g, dr, tk, os⟩ := s
 have hT : Shared.TypeIs ⟨hp, g, dr, tk, os⟩ (.ref it) "dict_itemiterator" := ⟨_, hit, rfl⟩
 unfold pyNext
 refine wpAny_bind (wpAny_attempt (wpAny_callSpecial?_slot (name := Str.ofString "__next__") hT F.slot_dict_itemiterator_next (wpAny_call_entry F.slot_dict_itemiterator_next hT F.entry_dict_itemiterator_next ?_ (F.args_dict_itemiterator_next_1 _))))
 refine wpAny_bind (wpAny_pure (wpAny_bind (wpAny_bind ?_)))
 refine wpAny_bind (wpAny_typeNameOfWhole_itemiter hT (wpAny_pure (wpAny_bind (wpAny_fieldsOf hit rfl ?_))))
 have own : Builtin.Dict_items.ownsTuple "dict_itemiterator" = true := by decide
 simp only [own, if_true]
 have nn : ¬ (Value.ref d == Value.none) = true := Bool.false_ne_true
 show wpAny _ _ (if (Value.ref d == Value.none) = true then _ else _) _ _ _
 rw [if_neg nn]
 refine wpAny_bind (wpAny_pure (wpAny_bind (wpAny_dictEntries hod hdd ?_)))
 rw [if_neg (by simp)]
 refine wpAny_bind (wpAny_pure (wpAny_bind (wpAny_dictEpoch hod hdd ?_)))
 rw [if_neg (by simp)]
 refine wpAny_pure ?_
 have n0 : ¬ ((i : Int) < 0) := by omega
 simp only [n0, if_false, Int.toNat_natCast, Array.getElem?_eq_none hx]
 refine wpAny_bind (wpAny_bind (wpAny_typeNameOfWhole_itemiter hT (wpAny_pure ?_)))
 show wpAny _ _ (setField (.ref it) 2 .none >>= _) _ _ _
 refine wpAny_bind (wpAny_setField hit rfl (by simp) ?_)
 show wpAny _ _ (newExc (.type "StopIteration") [] >>= _) _ _ _
 refine wpAny_bind ?_
 simp only [newExc, newTuple]
 refine wpAny_bind (wpAny_newObj_type ?_ (by size_fits))
 refine wpAny_bind (m := firstArgMember _ _) (wpAny_of_eq (a := Value.none) (by first | rfl | (simp only [firstArgMember]; rfl)) (wpAny_newObj_type ?_ (by size_fits)))
 simp only [raiseNew]
 refine wpAny_bind (wpAny_handled ?_)
 rw [show A.in1.handled = none from hh]
 refine wpAny_bind (wpAny_pure (wpAny_throw ?_))
 refine wpAny_bind (wpAny_isInstance (T := "StopIteration") (b := true) ⟨_, Heap.get?_push_size _ rfl, rfl⟩ isSubtype_stop ?_)
 exact wpAny_pure (k _ (((Heap.SameBut.update ..).extBut.push _).push _))
structure Laid (es : Array DictEntry) (lo : Addr) (h : Heap) (as : List Addr) : Prop where
 rise : as.Pairwise (· < ·)
 above : ∀ a ∈ as, lo < a
 at_ : ∀ (j : Nat) a, as[j]? = some a → ∃ e, es[j]? = some e ∧ h.get? a = some { cls := .type "tuple", data := .seq #[e.key, e.val] }
theorem Laid.in {lo : Addr} {h : Heap} {as : List Addr} (L : Laid es lo h as) {b : Addr} (hb : b ∈ as) : b < h.objs.size := by
 obtain ⟨j, hj⟩ := List.mem_iff_getElem?.mp hb
 obtain ⟨_, _, z⟩ := L.at_ j b hj
 exact Heap.lt_size z
theorem Laid.keep {lo : Addr} {h h' : Heap} {as : List Addr} (L : Laid es lo h as) (k : ∀ b o, b ∈ as → h.get? b = some o → h'.get? b = some o) : Laid es lo h' as :=
 ⟨L.rise, L.above, fun j b hj => let ⟨x, e1, e2⟩ := L.at_ j b hj; ⟨x, e1, k b _ (List.mem_of_getElem? hj) e2⟩⟩
theorem Laid.snoc {lo p : Addr} {h h' : Heap} {as : List Addr} (L : Laid es lo h as) (k : ∀ b o, b ∈ as → h.get? b = some o → h'.get? b = some o) (hp : h.objs.size ≤ p) (hl : lo < p) (hx : es[as.length]? = some e)
  (ht : h'.get? p = some { cls := .type "tuple", data := .seq #[e.key, e.val] }) : Laid es lo h' (as ++ [p]) := by
 have L' := L.keep k
 refine ⟨List.pairwise_append.mpr ⟨L.rise, List.pairwise_singleton _ _, fun b hb c hc => ?_⟩, fun b hb => ?_, fun j b hj => ?_⟩
 ·rw [List.mem_singleton.mp hc]
  exact Nat.lt_of_lt_of_le (L.in hb) hp
 ·rcases List.mem_append.mp hb with z | z
  ·exact L.above b z
  ·rw [List.mem_singleton.mp z]; exact hl
 ·by_cases h1 : j < as.length
  ·rw [List.getElem?_append_left h1] at hj
   exact L'.at_ j b hj
  ·have ej : j = as.length := by
    have := (List.getElem?_eq_some_iff.mp hj).1
    simp at this
    omega
   subst ej
   rw [List.getElem?_append_right (Nat.le_refl _)] at hj
   simp at hj
   subst hj
   exact ⟨e, hx, ht⟩
def ItSt (h : Heap) (it d S : Addr) (i n ep : Nat) : Prop := (i = 0 ∧ ∃ ok ov, IsItemIter h it d 0 n ep ok ov) ∨ ∃ ok ov a f oa, PySem.W.KdxIt h it d i n ep ok ov a f ∧ h.get? a = some oa ∧ a ≠ it ∧ a ≠ S
end
section
variable {prog : Program} {w : World} {A : Around} {s : Shared} {R : Result → Shared → Prop} {es : Array DictEntry} {ep : Nat} {od : Obj}
theorem qdc {S I d : Addr} (hh : A.handled = none) (lSI : S < I) (nS : d ≠ S) (nI : d ≠ I) (hn : es.size ≤ sizeLine) (hdd : od.data = .dict es ep) (res : Value) {g : Heap}
  (fin : ∀ h' tk acc c as, (∀ b o, b ≠ S → b ≠ I → g.get? b = some o → h'.get? b = some o) → h'.get? S = some { cls := .type "list", dict := none, data := .seq acc c, slots := #[] } → as.length = es.size → Laid es I h' as → acc.toList = as.map Value.ref → R (.ok (.ret res)) { s with heap := h', toks := tk }) :
  ∀ (m i : Nat) (h : Heap) (tk c : Nat) (acc : Array Value) (as : List Addr), es.size - i = m → i ≤ es.size → ItSt h I d S i es.size ep → h.get? d = some od → (∀ b o, b ≠ S → b ≠ I → g.get? b = some o → h.get? b = some o) →
   h.get? S = some { cls := .type "list", dict := none, data := .seq acc c, slots := #[] } → acc.toList = as.map Value.ref → as.length = i → Laid es I h as → I < h.objs.size →
   codeAny (model prog w) A (.builtin "list.extend.loop" ⟨[.ref S, .ref I, res], []⟩) R { s with heap := h, toks := tk } := by
 have ne : S ≠ I := Nat.ne_of_lt lSI
 intro m
 induction m with
 | zero =>
  intro i h tk c acc as em hi st hod kp hS ea el L hI
  refine codeAny_builtin F.entry_extend_loop ?_
  rw [Around.under_plainId F.plain_extend_loop _]
  show wpAny _ A.in1 (pyNext (.ref I) >>= _) _ _ _
  have done : ∀ h', Heap.ExtBut I h h' → R (.ok (.ret res)) { s with heap := h', toks := tk } := fun h' eb =>
   fin h' tk acc c as (fun b o h1 h2 q => eb b o h2 (kp b o h1 h2 q)) (eb S _ ne hS) (by omega) (L.keep fun b o hb q => eb b o (Nat.ne_of_gt (L.above b hb)) q) ea
  refine wpAny_bind ?_
  rcases st with ⟨rfl, ok, ov, q⟩ | ⟨ok, ov, a, f, oa, q, _⟩
  ·exact qcp (s := { s with heap := h, toks := tk }) (A := A.in1) hh q hod hdd (by omega) fun h' eb => wpAny_pure (done h' eb)
  ·exact qcy (s := { s with heap := h, toks := tk }) (A := A.in1) hh q hod hdd (by omega) fun h' eb => wpAny_pure (done h' eb)
 | succ m ih =>
  intro i h tk c acc as em hi st hod kp hS ea el L hI
  have lt : i < es.size := by omega
  have hx : es[i]? = some es[i] := Array.getElem?_eq_getElem lt
  have sz : acc.size = i := by rw [← Array.length_toList, ea, List.length_map, el]
  have lS : S < h.objs.size := Heap.lt_size hS
  refine codeAny_builtin F.entry_extend_loop ?_
  rw [Around.under_plainId F.plain_extend_loop _]
  show wpAny _ A.in1 (pyNext (.ref I) >>= _) _ _ _
  refine wpAny_bind ?_
  have more : ∀ h', ItSt h' I d S (i + 1) es.size ep → h'.get? h.objs.size = some { cls := .type "tuple", data := .seq #[es[i].key, es[i].val] } → (∀ b o, b ≠ I → h.get? b = some o → h'.get? b = some o) →
    wpAny (model prog w) A.in1 (updateSeq S (·.push (Value.ref h.objs.size)) >>= fun _ => pure (PySem.Fin.again (.builtin "list.extend.loop" ⟨[.ref S, .ref I, res], []⟩)))
     (fun fin s' => match fin with | .done f => R (.ok f) s' | .again c' => c'.quiet = true ∧ codeAny (model prog w) A c' R s') (fun e s' => R (.error e) s') { s with heap := h', toks := tk } := by
   intro h' st' ht k1
   have hS' := k1 S _ ne hS
   have up : ∀ b o, b ≠ S → h'.get? b = some o → (h'.update S (Obj.mapSeq (·.push (Value.ref h.objs.size)))).get? b = some o := fun b o hb q => (Heap.get?_update_other _ _ (Ne.symm hb)).trans q
   have tu := up _ _ (Nat.ne_of_gt lS) ht
   refine wpAny_bind (wpAny_updateSeq hS' rfl (wpAny_pure ⟨plainId_quiet F.plain_extend_loop _, ?_⟩) (by rw [sz]; omega) (by show (acc.push (Value.ref h.objs.size)).size ≤ sizeLine + 1; rw [Array.size_push, sz]; omega))
   refine ih (i + 1) _ tk _ (acc.push (Value.ref h.objs.size)) (as ++ [h.objs.size]) (by omega) lt ?_ (up d _ nS (k1 d _ nI hod)) (fun b o h1 h2 q => up b o h1 (k1 b o h2 (kp b o h1 h2 q))) (Heap.get?_update_self _ hS' rfl) (by rw [Array.toList_push, ea, List.map_append]; rfl) (by rw [List.length_append, el]; rfl)
    (L.snoc (fun b o hb q => up b o (Nat.ne_of_gt (Nat.lt_trans lSI (L.above b hb))) (k1 b o (Nat.ne_of_gt (L.above b hb)) q)) (Nat.le_refl _) hI (by rw [el]; exact hx) tu) (Nat.lt_trans hI (Heap.lt_size tu))
   rcases st' with ⟨z, _⟩ | ⟨ok, ov, a, f, oa, q, qa, na, nb⟩
   ·cases z
   ·exact .inr ⟨ok, ov, a, f, oa, up _ _ (Ne.symm ne) q, up _ _ nb qa, na, nb⟩
  rcases st with ⟨rfl, ok, ov, q⟩ | ⟨ok, ov, a, f, oa, q, qa, na, nb⟩
  ·exact qan (s := { s with heap := h, toks := tk }) (A := A.in1) q hod hdd hx fun h' q' ht hz k1 => more h' (.inr ⟨_, _, _, false, _, q', ht, Nat.ne_of_gt hI, Nat.ne_of_gt lS⟩) ht k1
  ·exact qd7 (s := { s with heap := h, toks := tk }) (A := A.in1) q qa na hod hdd hx fun h' q' ht hz k1 => more h' (.inr ⟨_, _, a, true, oa, q', k1 a oa na qa, na, nb⟩) ht k1
end
section
variable {prog : Program} {w : World} {A : Around} {E : Value → Shared → Prop} {s : Shared} {r d : Addr} {es : Array DictEntry} {ep : Nat} {od : Obj}
theorem qcx {R : Result → Shared → Prop} (hh : A.handled = none) (hv : s.heap.IsItemsView r d) (hod : s.heap.get? d = some od) (hdd : od.data = .dict es ep) (S : Addr) (nr : S ≠ r) (nd : d ≠ S) (res : Value) (c₀ : Nat) (hS : s.heap.get? S = some { cls := .type "list", data := .seq #[] c₀ }) (hn : es.size ≤ sizeLine)
  (fin : ∀ h' tk acc c as, (∀ b o, b ≠ S → s.heap.get? b = some o → h'.get? b = some o) → h'.get? S = some { cls := .type "list", dict := none, data := .seq acc c, slots := #[] } → as.length = es.size → Laid es s.heap.objs.size h' as → acc.toList = as.map Value.ref → R (.ok (.ret res)) { s with heap := h', toks := tk }) :
  wpAny (model prog w) A.in1 (Builtin.List.listExtendWith (.ref S) (.ref r) res)
   (fun fin s' => match fin with | .done f => R (.ok f) s' | .again c' => c'.quiet = true ∧ codeAny (model prog w) A c' R s') (fun e s' => R (.error e) s') s := by
 have lS : S < s.heap.objs.size := Heap.lt_size hS
 have ld : d < s.heap.objs.size := Heap.lt_size hod
 have key : ∀ (h : Heap) (c₁ tk : Nat), (∀ b o, b ≠ S → (s.heap.push { cls := .type "dict_itemiterator", data := .fields #[.none, .bool false, .ref d, .int 0 0, .int es.size 0, .int ep 0, .none, .none] }).get? b = some o → h.get? b = some o) →
   h.get? S = some { cls := .type "list", data := .seq #[] c₁ } → codeAny (model prog w) A (.builtin "list.extend.loop" ⟨[.ref S, .ref s.heap.objs.size, res], []⟩) R { s with heap := h, toks := tk } := by
  intro h c₁ tk hk hS1
  have hI := hk s.heap.objs.size _ (Nat.ne_of_gt lS) (Heap.get?_push_size _ rfl)
  refine qdc (s := s) (g := s.heap) hh lS nd (Nat.ne_of_lt ld) hn hdd res (fun h' tk' acc c as k1 h1 h2 h3 h4 => fin h' tk' acc c as (fun b o hb q => k1 b o hb (Nat.ne_of_lt (Heap.lt_size q)) q) h1 h2 h3 h4) es.size 0 h tk c₁ #[] [] (Nat.sub_zero _) (Nat.zero_le _)
   (.inl ⟨rfl, .none, .none, hI⟩) (hk d _ nd (Heap.get?_push_of_some _ hod)) (fun b o hb _ q => hk b o hb (Heap.get?_push_of_some _ q)) hS1 rfl rfl ⟨.nil, (fun _ z => nomatch z), fun j a z => by simp at z⟩ (Heap.lt_size hI)
 unfold Builtin.List.listExtendWith
 refine wpAny_bind (wpAny_typeOf (T := "dict_items") hv.typeIs ?_)
 have e1 : Builtin.List.listSameRef (.ref S) (.ref r) = false := by simp [Builtin.List.listSameRef, nr]
 have e2 : (Value.type "dict_items" == Value.type "list") = false := by decide
 have e3 : (Value.type "dict_items" == Value.type "tuple") = false := by decide
 simp only [e1, e2, e3, Bool.or_false, Bool.false_eq_true, if_false]
 refine wpAny_bind (qad hv hod hdd ?_)
 have hS1 := Heap.get?_push_of_some { cls := .type "dict_itemiterator", data := .fields #[.none, .bool false, .ref d, .int 0 0, .int es.size 0, .int ep 0, .none, .none] } hS
 refine wpAny_bind (wpAny_holding (PySem.W.kdx_hint (let ⟨o, ho, hc, _⟩ := hv; ⟨o, Heap.get?_push_of_some _ ho, hc⟩) ?_))
 refine wpAny_ite_split (fun _ => wpAny_bind (wpAny_rule (wpAny_bind ?_))) (fun _ => wpAny_pure ⟨plainId_quiet F.plain_extend_loop _, key _ c₀ _ (fun b o _ q => q) hS1⟩)
 show wpAny _ _ (updateSeq S (·.push .none) >>= fun _ => updateSeq S (·.pop)) _ _ _
 have hS2 := Heap.get?_update_self (Obj.mapSeq (·.push Value.none)) hS1 rfl
 have hS3 := Heap.get?_update_self (Obj.mapSeq (·.pop)) hS2 rfl
 refine wpAny_bind (wpAny_updateSeq hS1 rfl (wpAny_updateSeq (hz := by seq_fits) hS2 rfl (wpAny_pure ⟨plainId_quiet F.plain_extend_loop _, key _ _ _ (fun b o hb q => ?_) hS3⟩)))
 exact (Heap.get?_update_other _ _ (Ne.symm hb)).trans ((Heap.get?_update_other _ _ (Ne.symm hb)).trans q)
theorem q9y {Q : Value → Shared → Prop} (hh : A.handled = none) (hv : s.heap.IsItemsView r d) (hod : s.heap.get? d = some od) (hdd : od.data = .dict es ep) (hn : es.size ≤ sizeLine)
  (fin : ∀ h' tk acc c as, (∀ b o, s.heap.get? b = some o → h'.get? b = some o) → h'.get? s.heap.objs.size = some { cls := .type "list", dict := none, data := .seq acc c, slots := #[] } → as.length = es.size → Laid es s.heap.objs.size h' as → acc.toList = as.map Value.ref →
   Q (.ref s.heap.objs.size) { s with heap := h', toks := tk }) : wpAny (model prog w) A (call (.type "list") [.ref r]) Q E s := by
 refine callType_codes (Q₁ := fun obj s₁ => obj = .ref s.heap.objs.size ∧ s₁ = { s with heap := s.heap.push { cls := .type "list", data := .seq #[] } }) F.called_list (F.typeCall_list_1 _) F.entry_list_init (code_list_new _ ⟨rfl, rfl⟩) fun obj s₁ q => ?_
 obtain ⟨rfl, rfl⟩ := q
 have hS : (s.heap.push { cls := .type "list", data := .seq #[] }).get? s.heap.objs.size = some { cls := .type "list", data := .seq #[] } := Heap.get?_push_size _ rfl
 have lr : r < s.heap.objs.size := let ⟨_, ho, _⟩ := hv; Heap.lt_size ho
 have ld : d < s.heap.objs.size := Heap.lt_size hod
 refine ⟨⟨_, hS, rfl⟩, F.args_list_init_2 _ _, ?_⟩
 generalize eg : s.heap.push { cls := .type "list", data := .seq #[] } = g at hS
 have kg : ∀ b o, s.heap.get? b = some o → g.get? b = some o := fun b o q => by rw [← eg]; exact Heap.get?_push_of_some _ q
 show wpAny _ _ (do let old ← Builtin.List.listItems (.ref s.heap.objs.size); Builtin.List.listUpdate (.ref s.heap.objs.size) (fun _ => #[]); letGo old.toList.reverse; Builtin.List.listExtendWith (.ref s.heap.objs.size) (.ref r) .none) _ _ _
 refine wpAny_bind ?_
 unfold Builtin.List.listItems
 refine wpAny_bind (wpAny_seqItems hS rfl (wpAny_pure ?_))
 show wpAny _ _ (updateSeq s.heap.objs.size (fun _ => #[]) >>= fun _ => letGo (#[] : Array Value).toList.reverse >>= fun _ => Builtin.List.listExtendWith (.ref s.heap.objs.size) (.ref r) .none) _ _ _
 refine wpAny_bind (wpAny_updateSeq hS rfl (wpAny_bind (wpAny_letGo ?_)))
 have hS2 := Heap.get?_update_self (Obj.mapSeq (fun _ => (#[] : Array Value))) hS rfl
 have oth : ∀ b o, b ≠ s.heap.objs.size → g.get? b = some o → (g.update s.heap.objs.size (Obj.mapSeq (fun _ => (#[] : Array Value)))).get? b = some o := fun b o hb q => (Heap.get?_update_other _ _ (Ne.symm hb)).trans q
 have gz : s.heap.objs.size ≤ (g.update s.heap.objs.size (Obj.mapSeq (fun _ => (#[] : Array Value)))).objs.size := Nat.le_of_lt (Heap.lt_size hS2)
 have nr : r ≠ s.heap.objs.size := Nat.ne_of_lt lr
 have nd : d ≠ s.heap.objs.size := Nat.ne_of_lt ld
 refine qcx (A := A.in1) (s := { s with heap := g.update s.heap.objs.size (Obj.mapSeq (fun _ => (#[] : Array Value))) }) hh (let ⟨o, ho, x⟩ := hv; ⟨o, oth r o nr (kg r o ho), x⟩) (oth d _ nd (kg d _ hod)) hdd s.heap.objs.size (Ne.symm nr) nd .none _ hS2 hn fun h' tk acc c as k1 h1 h2 h3 h4 => ?_
 exact ⟨rfl, fin h' tk acc c as (fun b o q => k1 b o (Nat.ne_of_lt (Heap.lt_size q)) (oth b o (Nat.ne_of_lt (Heap.lt_size q)) (kg b o q))) h1 h2 ⟨h3.rise, fun a ha => Nat.lt_of_le_of_lt gz (h3.above a ha), h3.at_⟩ h4⟩
end
section
variable {X : Cx}
theorem qae (hc : X.calm = true) : q55 X (.type "list") (fun xs H Q => ∃ (v d : Addr) (u : HO), xs = [.ref v] ∧ H v = some (.ext fun h => h.IsItemsView v d) ∧ H d = some u ∧ isD u ∧
  ∀ (p : Addr) (as : List Addr) (ps : List (V × V)) (H' : Hp), H p = none → H' p = some (.lst (as.map V.ref)) → q8m H u ps → as.length = ps.length → (∀ (j : Nat) a q, as[j]? = some a → ps[j]? = some q → H' a = some (.tup [q.1, q.2])) → Kp [] H H' → Q (.ref p) H') := by
 intro pins s σ H xs us Q I r h
 obtain ⟨v, d, u, rfl, hv, hd, hu, q⟩ := h
 obtain ⟨uv, rfl, ru⟩ := q6g r
 obtain rfl : uv = Value.ref v := ru
 obtain ⟨vw, _⟩ := I.hok v _ hv
 obtain ⟨lo, od, es, ep, ps, hod, _, _, hdd, hps, hr⟩ := qiz I.hok hd hu
 have hl : es.size = ps.length := by have := Paired.length hr; simpa using this
 have hz : es.size ≤ sizeLine := by
  rw [hl]
  cases u with
  | dK kvs => obtain ⟨z, _⟩ := (show q1h X.prog X.w H s.heap d (.dK kvs) from I.hok d _ hd); rw [show ps = _ from hps, List.length_map]; exact z
  | dT kvs => obtain ⟨z, _⟩ := (show q1h X.prog X.w H s.heap d (.dT kvs) from I.hok d _ hd); rw [← Paired.length hps]; exact z
  | _ => exact hu.elim
 refine q9y (I.ok.hd hc) vw hod hdd hz fun h' tk acc c as kp hS hlen L hacc => ?_
 have I1 : Inv X pins σ H { s with heap := h', toks := tk } := I.kept kp
 obtain ⟨H', I', k', fr, at'⟩ := Inv.trackT (ps := ps) I1 (hlen.trans hl) (q44 L.rise) (fun a ha => I.fpOk (Nat.le_of_lt (L.above a ha)) (I.hok.fresh (Nat.le_of_lt (L.above a ha)))) (fun j a p e1 e2 => by
  obtain ⟨e, e3, e4⟩ := L.at_ j a e1
  obtain ⟨e', e5, r1, r2⟩ := hr.get e2
  rw [← Array.getElem?_toList, e5] at e3
  cases e3
  exact ⟨_, _, r1, r2, e4⟩)
 have nS : s.heap.objs.size ∉ as := fun z => absurd (L.above _ z) (Nat.lt_irrefl _)
 have fS : FpOk X pins H' s.heap.objs.size := I.fpOk (Nat.le_refl _) (fr _ nS (I.hok.fresh (Nat.le_refl _)))
 have hv' : Vals (as.map V.ref) acc.toList := by rw [hacc]; exact q3w as
 have I2 : Inv X pins σ (upd H' s.heap.objs.size (.lst (as.map V.ref))) { s with heap := h', toks := tk } := I'.track fS ⟨by rw [List.length_map, hlen]; exact hz, acc.toList, c, hv', by simpa using hS⟩
 refine ⟨.ref s.heap.objs.size, _, I2, rfl, q _ as ps _ (I.hok.fresh (Nat.le_refl _)) q05 hps (hlen.trans hl) (fun j a p e1 e2 => ?_) (k'.trans (Kp.new fS.1))⟩
 rw [q08 (q09 (at' j a p e1 e2) fS.1)]
 exact at' j a p e1 e2
end
section
variable {X : Cx} {tg : Expr}
end
end L2
end
section
namespace L2
open PySem PySem.Spec PyProof.Rows
open PySem.W (KasT)
def tOk {α : Type} (lt : Nat → Nat → Bool) (n : Nat) : KasT α → (α → Prop) → Prop
 | .ret a, P => P a
 | .ask i j k, P => (i < n ∧ j < n ∧ i ≠ j) ∧ tOk lt n (k (lt i j)) P
theorem q39 {α β : Type} {lt : Nat → Nat → Bool} {n : Nat} {f : α → KasT β} {P : β → Prop} : ∀ {t : KasT α}, tOk lt n t (fun a => tOk lt n (f a) P) → tOk lt n (t.bind f) P
 | .ret _, h => h
 | .ask _ _ _, h => ⟨h.1, q39 h.2⟩
theorem qf6 {α : Type} {lt : Nat → Nat → Bool} {n : Nat} {cmp : Nat → Nat → (Bool → Shared → Prop) → Shared → Prop} {s : Shared} {Q : α → Shared → Prop} (hc : ∀ i j C, i < n → j < n → i ≠ j → C (lt i j) s → cmp i j C s) : ∀ {t : KasT α}, tOk lt n t (fun a => Q a s) → t.kasWp cmp Q s
 | .ret _, h => h
 | .ask i j k, h => hc i j _ h.1.1 h.1.2.1 h.1.2.2 (qf6 (t := k (lt i j)) hc h.2)
structure LtOk (lt : Nat → Nat → Bool) (n : Nat) : Prop where
 tot : ∀ i j, i < n → j < n → i ≠ j → lt i j = false → lt j i = true
 asy : ∀ i j, lt i j = true → lt j i = false
 tr : ∀ i j k, lt i j = true → lt j k = true → lt i k = true
abbrev gd (p : Array Nat) (i : Nat) : Nat := p.getD i 0
def Pn (n : Nat) (p : Array Nat) : Prop := p.toList.Perm (List.range n)
def Up (lt : Nat → Nat → Bool) (p : Array Nat) (m : Nat) : Prop := ∀ i j, i < j → j < m → lt (gd p i) (gd p j) = true
def Dn (lt : Nat → Nat → Bool) (p : Array Nat) (m : Nat) : Prop := ∀ i j, i < j → j < m → lt (gd p j) (gd p i) = true
theorem qel {p q : Array Nat} {i j : Nat} (h : p[i]? = q[j]?) : gd p i = gd q j := by
 unfold gd
 rw [Array.getD_eq_getD_getElem?, Array.getD_eq_getD_getElem?, h]
section
variable {lt : Nat → Nat → Bool} {n : Nat} {p : Array Nat}
theorem Pn.size (h : Pn n p) : p.size = n := by have := h.length_eq; simpa using this
theorem qfx (h : Pn n p) {i : Nat} (hi : i < n) : ∃ h' : i < p.toList.length, gd p i = p.toList[i] := by
 have hs := h.size
 have h' : i < p.toList.length := by simpa [hs] using hi
 refine ⟨h', ?_⟩
 unfold gd
 rw [Array.getD_eq_getD_getElem?, ← Array.getElem?_toList, List.getElem?_eq_getElem h']
 rfl
theorem Pn.bd (h : Pn n p) {i : Nat} (hi : i < n) : gd p i < n := by
 obtain ⟨h', e⟩ := qfx h hi
 rw [e]
 exact List.mem_range.mp (h.mem_iff.mp (List.getElem_mem h'))
theorem Pn.ne (h : Pn n p) {i j : Nat} (hi : i < n) (hj : j < n) (hij : i ≠ j) : gd p i ≠ gd p j := by
 obtain ⟨h1, e1⟩ := qfx h hi
 obtain ⟨h2, e2⟩ := qfx h hj
 rw [e1, e2]
 intro z
 have nd : p.toList.Nodup := h.nodup_iff.mpr List.nodup_range
 exact hij ((List.getElem_inj nd).mp z)
theorem Pn.up1 (O : LtOk lt n) (hp : Pn n p) {m : Nat} (h1 : 1 ≤ m) (hm : m < n) (u : Up lt p m) (h : lt (gd p m) (gd p (m - 1)) = false) : Up lt p (m + 1) := by
 have h2 := O.tot _ _ (hp.bd hm) (hp.bd (show m - 1 < n by omega)) (hp.ne hm (by omega) (by omega)) h
 intro i j hij hj
 by_cases e : j < m
 ·exact u i j hij e
 ·obtain rfl : j = m := by omega
  by_cases e2 : i = j - 1
  ·rw [e2]; exact h2
  ·exact O.tr _ _ _ (u i (j - 1) (by omega) (by omega)) h2
theorem qbf (O : LtOk lt n) (hp : Pn n p) {P : Nat → Prop} : ∀ (f m : Nat), 1 ≤ m → m + f ≤ n → Up lt p m → (∀ m', m ≤ m' → m' ≤ m + f → Up lt p m' → (m' = m + f ∨ lt (gd p m') (gd p (m' - 1)) = true) → P m') → tOk lt n (PySem.W.kas_asc p f m) P
 | 0, m, _, _, u, k => k m (Nat.le_refl _) (by omega) u (.inl rfl)
 | f + 1, m, h1, hm, u, k => by
  refine ⟨⟨hp.bd (by omega), hp.bd (by omega), hp.ne (by omega) (by omega) (by omega)⟩, ?_⟩
  cases e : lt (gd p m) (gd p (m - 1)) with
  | true =>
   dsimp only
   rw [if_pos rfl]
   exact k m (Nat.le_refl _) (by omega) u (.inr e)
  | false =>
   dsimp only
   rw [if_neg (by simp)]
   exact qbf O hp f (m + 1) (by omega) (by omega) (hp.up1 O h1 (by omega) u e) fun m' a1 a2 a3 a4 => k m' (by omega) (by omega) a3 (a4.imp (fun z => by omega) id)
theorem qcg (O : LtOk lt n) (hp : Pn n p) {P : Array Nat × Nat × Nat → Prop} : ∀ (f m : Nat), 1 ≤ m → m + f ≤ n → Dn lt p m → (∀ m', m ≤ m' → m' ≤ m + f → Dn lt p m' → P (p, m', 0)) → tOk lt n (PySem.W.kas_desc f p m 0) P
 | 0, m, _, _, u, k => k m (Nat.le_refl _) (by omega) u
 | f + 1, m, h1, hm, u, k => by
  have d1 := hp.ne (show m < n by omega) (show m - 1 < n by omega) (by omega)
  refine ⟨⟨hp.bd (by omega), hp.bd (by omega), d1⟩, ?_⟩
  cases e : lt (gd p m) (gd p (m - 1)) with
  | true =>
   dsimp only
   rw [if_pos rfl, if_neg (by omega)]
   refine qcg O hp f (m + 1) (by omega) (by omega) (fun i j hij hj => ?_) fun m' a1 a2 a3 => k m' (by omega) (by omega) a3
   by_cases e' : j < m
   ·exact u i j hij e'
   ·obtain rfl : j = m := by omega
    by_cases e2 : i = j - 1
    ·rw [e2]; exact e
    ·exact O.tr _ _ _ e (u i (j - 1) (by omega) (by omega))
  | false =>
   dsimp only
   rw [if_neg (by simp)]
   refine ⟨⟨hp.bd (by omega), hp.bd (by omega), Ne.symm d1⟩, ?_⟩
   show tOk lt n (if lt (gd p (m - 1)) (gd p m) = true then _ else _) P
   rw [if_pos (O.tot _ _ (hp.bd (by omega)) (hp.bd (by omega)) d1 e)]
   exact k m (Nat.le_refl _) (by omega) u
theorem Pn.rev (hp : Pn n p) (i j : Nat) : Pn n (PySem.W.kas_rev p i j) := (Array.perm_iff_toList_perm.mp (mirror_perm p i j _)).trans hp
theorem qeo (O : LtOk lt n) (hp : Pn n p) {m : Nat} {P : Nat × Array Nat → Prop} (h1 : 1 ≤ m) (hm : m ≤ n) (d : Dn lt p m) (k : ∀ m' p', Pn n p' → 1 ≤ m' → m' ≤ n → Up lt p' m' → P (m', p')) : tOk lt n (PySem.W.kas_tail3 m n p) P := by
 refine q39 (qbf O (hp.rev 0 m) (n - m) m h1 (by omega) (fun i j hij hj => ?_) fun m' a1 a2 a3 _ => k m' _ (hp.rev 0 m) (by omega) (by omega) a3)
 have e : ∀ t, t < m → gd (PySem.W.kas_rev p 0 m) t = gd p (m - 1 - t) := fun t ht => by
  refine qel ?_
  show (mirror p 0 m ((m - 0) / 2))[t]? = _
  rw [getElem?_mirror_all (by rw [hp.size]; exact hm), if_pos ⟨Nat.zero_le _, ht⟩, Nat.zero_add]
 rw [e i (by omega), e j hj]
 exact d _ _ (by omega) (by omega)
theorem qek (O : LtOk lt n) (hp : Pn n p) (h1 : 1 ≤ n) {P : Nat × Array Nat → Prop} (k : ∀ m' p', Pn n p' → 1 ≤ m' → m' ≤ n → Up lt p' m' → P (m', p')) : tOk lt n (PySem.W.kas_count n p) P := by
 refine q39 (qbf O hp (n - 1) 1 (Nat.le_refl _) (by omega) (fun i j hij hj => by omega) fun m a1 a2 a3 a4 => ?_)
 by_cases e : m = n
 ·rw [if_pos (by rw [e]; exact beq_self_eq_true _)]
  exact k m p hp a1 (by omega) a3
 ·rw [if_neg (by simpa using e)]
  by_cases e2 : m > 1
  ·rw [if_pos e2]
   refine ⟨⟨hp.bd (by omega), hp.bd (by omega), hp.ne (by omega) (by omega) (by omega)⟩, ?_⟩
   show tOk lt n (if lt (gd p 0) (gd p (m - 1)) = true then _ else _) P
   rw [if_pos (a3 0 (m - 1) (by omega) (by omega))]
   exact k m p hp a1 (by omega) a3
  ·rw [if_neg e2]
   obtain rfl : m = 1 := by omega
   have h0 : lt (gd p 1) (gd p 0) = true := a4.resolve_left (by omega)
   refine q39 (qcg O hp (n - (1 + 1)) (1 + 1) (by omega) (by omega) (fun i j hij hj => ?_) fun m' b1 b2 b3 => ?_)
   ·obtain rfl : i = 0 := by omega
    obtain rfl : j = 1 := by omega
    exact h0
   ·show tOk lt n (if 0 > 0 then _ else _) P
    rw [if_neg (by omega)]
    show tOk lt n (PySem.W.kas_tail3 m' n p) P
    exact qeo O hp (by omega) (by omega) b3 k
theorem q6s (O : LtOk lt n) (hp : Pn n p) {k : Nat} (hk : k < n) (u : Up lt p k) {P : Nat → Prop} : ∀ (f l r : Nat), l ≤ r → r ≤ k → r - l ≤ f → (∀ i, i < l → lt (gd p i) (gd p k) = true) → (∀ i, r ≤ i → i < k → lt (gd p k) (gd p i) = true) →
  (∀ l', l' ≤ k → (∀ i, i < l' → lt (gd p i) (gd p k) = true) → (∀ i, l' ≤ i → i < k → lt (gd p k) (gd p i) = true) → P l') → tOk lt n (PySem.W.kas_place p k f l r) P
 | 0, l, r, h1, h2, h3, a, b, q => by
  obtain rfl : l = r := by omega
  exact q l h2 a b
 | f + 1, l, r, h1, h2, h3, a, b, q => by
  unfold PySem.W.kas_place
  by_cases e : l ≥ r
  ·rw [if_pos e]
   obtain rfl : l = r := by omega
   exact q l h2 a b
  ·rw [if_neg e]
   have dn := hp.ne hk (show (l + r) / 2 < n by omega) (by omega)
   refine ⟨⟨hp.bd hk, hp.bd (by omega), dn⟩, ?_⟩
   show tOk lt n (if lt (gd p k) (gd p ((l + r) / 2)) = true then _ else _) P
   cases c : lt (gd p k) (gd p ((l + r) / 2)) with
   | true =>
    rw [if_pos rfl]
    refine q6s O hp hk u f l ((l + r) / 2) (by omega) (by omega) (by omega) a (fun i h4 h5 => ?_) q
    by_cases e3 : i = (l + r) / 2
    ·rw [e3]; exact c
    ·exact O.tr _ _ _ c (u _ _ (by omega) h5)
   | false =>
    rw [if_neg (by simp)]
    have c2 := O.tot _ _ (hp.bd hk) (hp.bd (show (l + r) / 2 < n by omega)) dn c
    refine q6s O hp hk u f ((l + r) / 2 + 1) r (by omega) (by omega) (by omega) (fun i h4 => ?_) b q
    by_cases e3 : i = (l + r) / 2
    ·rw [e3]; exact c2
    ·exact O.tr _ _ _ (u i _ (by omega) (by omega)) c2
theorem qfe (O : LtOk lt n) {P : Array Nat → Prop} (q : ∀ p', Pn n p' → Up lt p' n → P p') : ∀ (f k : Nat) (p : Array Nat), Pn n p → k + f = n → Up lt p k → tOk lt n (PySem.W.kas_bin f p k) P
 | 0, k, p, hp, hk, u => by
  obtain rfl : k = n := by omega
  exact q p hp u
 | f + 1, k, p, hp, hk, u => by
  refine q39 (q6s O hp (show k < n by omega) u k 0 k (Nat.zero_le _) (Nat.le_refl _) (Nat.le_refl _) (fun i h => absurd h (Nat.not_lt_zero _)) (fun i h1 h2 => by omega) fun l hl a b => ?_)
  refine qfe O q f (k + 1) _ ((Array.perm_iff_toList_perm.mp (bubble_perm p k (k - l))).trans hp) (by omega) fun i j hij hj => ?_
  have ks : k < p.size := by rw [hp.size]; omega
  have e : ∀ t, gd (bubble p k (k - l)) t = if t = l then gd p k else if l < t ∧ t ≤ k then gd p (t - 1) else gd p t := fun t => by
   have z := getElem?_bubble ks (k - l) (by omega) t
   rw [show k - (k - l) = l by omega] at z
   by_cases c1 : t = l
   ·rw [if_pos c1] at z ⊢; exact qel z
   ·rw [if_neg c1] at z ⊢
    by_cases c2 : l < t ∧ t ≤ k
    ·rw [if_pos c2] at z ⊢; exact qel z
    ·rw [if_neg c2] at z ⊢; exact qel z
  rw [e i, e j]
  by_cases i1 : i = l
  ·rw [if_pos i1, if_neg (by omega), if_pos (by omega)]
   exact b _ (by omega) (by omega)
  ·rw [if_neg i1]
   by_cases i2 : l < i ∧ i ≤ k
   ·rw [if_pos i2, if_neg (by omega), if_pos (by omega)]
    exact u _ _ (by omega) (by omega)
   ·rw [if_neg i2]
    by_cases j1 : j = l
    ·rw [if_pos j1]
     exact a _ (by omega)
    ·rw [if_neg j1]
     by_cases j2 : l < j ∧ j ≤ k
     ·rw [if_pos j2]
      exact u _ _ (by omega) (by omega)
     ·rw [if_neg j2]
      exact u _ _ (by omega) (by omega)
theorem qhr (O : LtOk lt n) (h1 : 1 ≤ n) {P : Array Nat → Prop} (q : ∀ p', Pn n p' → Up lt p' n → P p') : tOk lt n (PySem.W.kas_sort n) P := by
 have h0 : Pn n (List.toArray (List.range n)) := by unfold Pn; exact List.Perm.refl _
 refine q39 (qek O h0 h1 fun m p' hp a1 a2 u => ?_)
 show tOk lt n (if m < n then _ else _) P
 by_cases e : m < n
 ·rw [if_pos e]
  refine qfe O q _ _ p' hp (by omega) ?_
  rw [show max m 1 = m by omega]
  exact u
 ·rw [if_neg e]
  obtain rfl : m = n := by omega
  exact q p' hp u
end
def ltS (x y : Str) : Bool := decide (x.cps.toList < y.cps.toList)
theorem qft {x y : Str} (h1 : ltS x y = false) (h2 : ltS y x = false) : x = y := by
 have := strKind.total x.cps.toList y.cps.toList h1 h2
 cases x
 cases y
 exact congrArg Str.mk (Array.toList_inj.mp this)
theorem qbw {x y z : Str} (h1 : ltS x y = true) (h2 : ltS y z = true) : ltS x z = true := strKind.trans x.cps.toList y.cps.toList z.cps.toList h1 h2
theorem qce (x : Str) : ltS x x = false := strKind.irrefl x.cps.toList
abbrev gx (xs : List Str) (i : Nat) : Str := (xs[i]?).getD ⟨#[]⟩
theorem qj3 {xs : List Str} (nd : xs.Nodup) : LtOk (fun i j => ltS (gx xs i) (gx xs j)) xs.length where
 tot := fun i j hi hj hij h => by
  cases h2 : ltS (gx xs j) (gx xs i) with
  | true => rfl
  | false =>
   have e := qft h h2
   unfold gx at e
   rw [List.getElem?_eq_getElem hi, List.getElem?_eq_getElem hj] at e
   exact absurd ((List.getElem_inj nd).mp e) hij
 asy := fun i j h => by
  cases h2 : ltS (gx xs j) (gx xs i) with
  | false => rfl
  | true => have := qbw h h2; rw [qce] at this; cases this
 tr := fun _ _ _ h1 h2 => qbw h1 h2
structure Tups (h : Heap) (us : List Value) (xs : List Str) : Prop where
 len : us.length = xs.length
 at_ : ∀ (i : Nat) u x, us[i]? = some u → xs[i]? = some x → ∃ (a : Addr) (o : Obj) (t : Tok) (y : Value) (n : Nat), u = .ref a ∧ h.get? a = some o ∧ o.cls = .type "tuple" ∧ o.data = .seq #[.str x t, y] n
theorem q94 {h : Heap} : ∀ {us : List Value} {xs : List Str}, Tups h us xs → ∃ fs : List Value, PySem.W.KatTups h us fs ∧ fs.length = us.length ∧ ∀ f ∈ fs, ∃ x t, f = Value.str x t
 | [], _, _ => ⟨[], PySem.W.KatTups.nil, rfl, fun f hf => nomatch hf⟩
 | u :: us, [], T => by have := T.len; simp at this
 | u :: us, x :: xs, T => by
  obtain ⟨a, o, t, y, n, rfl, ho, hc, hd⟩ := T.at_ 0 u x rfl rfl
  obtain ⟨fs, k, l, q⟩ := q94 (us := us) (xs := xs) ⟨by have := T.len; simpa using this, fun i u x e1 e2 => T.at_ (i + 1) u x (by simpa using e1) (by simpa using e2)⟩
  exact ⟨.str x t :: fs, PySem.W.KatTups.cons ho hc hd rfl k, by simp [l], fun f hf => by
   rcases List.mem_cons.mp hf with rfl | hf
   ·exact ⟨x, t, rfl⟩
   ·exact q f hf⟩
theorem q3j {α : Type} (us : List α) (d : α) : (List.range us.length).map (fun i => us.getD i d) = us := by
 apply List.ext_getElem?
 intro i
 by_cases h : i < us.length
 ·rw [List.getElem?_map, List.getElem?_range h, List.getElem?_eq_getElem h]
  simp [List.getElem?_eq_getElem h]
 ·rw [List.getElem?_eq_none (by simpa using h), List.getElem?_eq_none (by simpa using h)]
section
variable {prog : Program} {w : World} {A : Around} {E : Value → Shared → Prop} {s : Shared}
theorem qeb {us : List Value} {xs : List Str} (T : Tups s.heap us xs) (nd : xs.Nodup) (i j : Nat) (C : Bool → Shared → Prop) (hi : i < xs.length) (hj : j < xs.length) (hij : i ≠ j) (hC : C (ltS (gx xs i) (gx xs j)) s) : PySem.W.kas_ask prog w A (tuples' true) us i j C s := by
 have ui : i < us.length := by rw [T.len]; exact hi
 have uj : j < us.length := by rw [T.len]; exact hj
 have ei := List.getElem?_eq_getElem ui
 have ej := List.getElem?_eq_getElem uj
 have xi := List.getElem?_eq_getElem hi
 have xj := List.getElem?_eq_getElem hj
 obtain ⟨a, o, t, y, n, e1, h1, c1, d1⟩ := T.at_ i _ _ ei xi
 obtain ⟨b, o', t', y', n', e2, h2, c2, d2⟩ := T.at_ j _ _ ej xj
 have g1 : us.getD i Value.none = .ref a := by rw [List.getD_eq_getElem?_getD, ei]; exact e1
 have g2 : us.getD j Value.none = .ref b := by rw [List.getD_eq_getElem?_getD, ej]; exact e2
 unfold PySem.W.kas_ask
 rw [g1, g2]
 refine PySem.W.kat_lt h1 d1 h2 d2 (PySem.W.kat_cons (wpAny_eqBool_str ?_))
 have ne : ¬ xs[i] = xs[j] := fun z => hij ((List.getElem_inj nd).mp z)
 rw [decide_eq_false ne]
 refine PySem.W.kat_no (oneLt_str ?_)
 unfold gx at hC
 rw [xi, xj] at hC
 exact hC
theorem qd2 {a : Addr} {us : List Value} {xs : List Str} {n : Nat} {G : PySem.Fin → Shared → Prop} (ho : s.heap.get? a = some (seqObj "list" us.toArray n)) (T : Tups s.heap us xs) (nd : xs.Nodup) (h64 : us.length < 64)
  (k : ∀ (h' : Heap) (c : Nat) (p : List Nat), (∀ b ob, b ≠ a → s.heap.get? b = some ob → h'.get? b = some ob) → h'.get? a = some (seqObj "list" (p.map fun i => us.getD i Value.none).toArray c) → p.Perm (List.range us.length) →
   (∀ (i j : Nat) (x y : Nat), i < j → p[i]? = some x → p[j]? = some y → ltS (gx xs x) (gx xs y) = true) → G (.done (.ret .none)) { s with heap := h' }) :
  wpAny (model prog w) A (Builtin.«list.sort» ⟨[.ref a], []⟩) G E s := by
 by_cases h2 : us.length < 2
 ·refine qaf ho h2 fun h' c k1 k2 => k h' c (List.range us.length) k1 (by rw [q3j]; exact k2) (List.Perm.refl _) fun i j x y hij e1 e2 => ?_
  have := (List.getElem?_eq_some_iff.mp e2).1
  rw [List.length_range] at this
  omega
 have lt : a < s.heap.objs.size := Heap.lt_size ho
 have z : ¬ us.toArray.size < 2 := by simpa using h2
 have small : us.length ≤ sizeLine := Nat.le_trans (Nat.le_of_lt h64) (by decide)
 rw [list_sort_plain]
 refine wpAny_bind (listItems_at ho rfl (wpAny_bind (listUpdate_at ho rfl ?_ (by simpa using small) (Nat.zero_le _))))
 have g1 := get?_update_seq ho (fun _ => (#[] : Array Value))
 have b1 := Heap.SameBut.update s.heap a (Obj.mapSeq fun _ => (#[] : Array Value))
 generalize s.heap.update a (Obj.mapSeq fun _ => (#[] : Array Value)) = g at g1 b1
 refine wpAny_bind (seqEpoch_at g1 rfl (wpAny_bind (wpAny_newTuple (hsz := by simpa using small) (wpAny_bind (wpAny_newList (wpAny_holding ?_))))))
 rw [if_neg z, if_neg z]
 have g2 := Heap.get?_push_of_some (seqObj "list" #[] 0) (Heap.get?_push_of_some (seqObj "tuple" us.toArray 0) g1)
 have kg : ∀ b ob, b ≠ a → s.heap.get? b = some ob → ((g.push (seqObj "tuple" us.toArray 0)).push (seqObj "list" #[] 0)).get? b = some ob := fun b ob nb q => Heap.get?_push_of_some _ (Heap.get?_push_of_some _ ((b1.2 b nb).trans q))
 show wpAny (model prog w) A _ G E { s with heap := (g.push (seqObj "tuple" us.toArray 0)).push (seqObj "list" #[] 0) }
 generalize (g.push (seqObj "tuple" us.toArray 0)).push (seqObj "list" #[] 0) = g' at g2 kg
 have T' : Tups g' us xs := ⟨T.len, fun i u x e1 e2 => by
  obtain ⟨b, o, t, y, m, rfl, ho', hc, hd⟩ := T.at_ i u x e1 e2
  refine ⟨b, o, t, y, m, rfl, kg b o (fun z => ?_) ho', hc, hd⟩
  rw [z, ho] at ho'
  cases ho'
  exact absurd (show Value.type "list" = Value.type "tuple" from hc) (by decide)⟩
 obtain ⟨fs, kt, lf, hf⟩ := q94 T'
 refine wpAny_bind (PySem.W.kat_kind (T := .type "str") kt (by omega) (fun f hf' => ?_) rfl ?_)
 ·obtain ⟨x, t, rfl⟩ := hf f hf'
  exact PySem.W.Looks.of_pure rfl
 rw [show (Value.type "str" != Value.type "tuple") = true by decide]
 refine wpAny_bind (wpAny_mono (PySem.W.kat_run (ks := us) (vs := us) (Q := fun st' s' => s' = { s with heap := g' } ∧ ∃ p : Array Nat, arrOf st' = p.map (PySem.W.kas_item (us.toArray.zip us.toArray)) ∧ failedOf st' = none ∧ Pn us.length p ∧ Up (fun i j => ltS (gx xs i) (gx xs j)) p us.length)
  rfl (by omega) h64 (G := fun p s' => s' = { s with heap := g' } ∧ Pn us.length p ∧ Up (fun i j => ltS (gx xs i) (gx xs j)) p us.length) (fun p st' s' _ h4 h5 h6 => ⟨h6.1, p, h4, h5, h6.2⟩) ?_) ?_ fun _ _ e => e)
 ·have O := qj3 nd
  rw [← T.len] at O
  exact qf6 (fun i j C hi hj hij hC => qeb (s := { s with heap := g' }) T' nd i j C (by rw [← T.len]; exact hi) (by rw [← T.len]; exact hj) hij hC) (qhr O (by omega) fun p' hp' up => ⟨rfl, hp', up⟩)
 rintro ⟨⟨⟩, st'⟩ s' ⟨rfl, p, har, hfl, hpn, hup⟩
 dsimp only
 have es := PySem.W.kat_snds (ks := us) (vs := us) rfl har
 refine wpAny_bind (seqEpoch_at g2 rfl ?_)
 rw [es]
 have lp : (p.toList.map fun i => us.getD i Value.none).length = us.length := by rw [List.length_map, Array.length_toList, hpn.size]
 refine wpAny_bind (listUpdate_at g2 rfl ?_ (Nat.zero_le _) (by rw [List.size_toArray, lp]; exact Nat.le_succ_of_le small))
 have g3 := get?_update_seq g2 (fun _ => (p.toList.map fun i => us.getD i Value.none).toArray)
 have b3 := Heap.SameBut.update g' a (Obj.mapSeq fun _ => (p.toList.map fun i => us.getD i Value.none).toArray)
 rw [hfl]
 simp only [bne_self_eq_false, Bool.false_eq_true, if_false]
 refine wpAny_pure (k _ _ p.toList (fun b ob nb q => (b3.2 b nb).trans (kg b ob nb q)) g3 hpn fun i j x y hij e1 e2 => ?_)
 have hj : j < us.length := by
  have := (List.getElem?_eq_some_iff.mp e2).1
  rw [Array.length_toList, hpn.size] at this
  exact this
 have := hup i j hij hj
 have q1 : gd p i = x := by unfold gd; rw [Array.getD_eq_getD_getElem?, ← Array.getElem?_toList, e1]; rfl
 have q2 : gd p j = y := by unfold gd; rw [Array.getD_eq_getD_getElem?, ← Array.getElem?_toList, e2]; rfl
 rw [q1, q2] at this
 exact this
end
end L2
end
section
namespace L2
open PySem PySem.Spec PyProof.Rows
def inrs {α : Type} (rows : List (Str × α)) : List (Key × α) := rows.map fun q => ((Sum.inr q.1 : Key), q.2)
theorem qd8 {κ : Type} : ∀ {kvs : List (κ × V)} {vs : List (κ × Value)}, KV kvs vs → kvs.map (·.1) = vs.map (·.1)
 | _, _, .nil => rfl
 | _, _, .cons h t => by rw [List.map_cons, List.map_cons, qd8 t, h.1]
theorem qa3 {α : Type} {rows : List (Str × α)} (h : ((inrs rows).map (·.1)).Nodup) : (rows.map (·.1)).Nodup := by
 have e : (inrs rows).map (·.1) = (rows.map (·.1)).map (Sum.inr : Str → Key) := by unfold inrs; rw [List.map_map, List.map_map]; rfl
 rw [e] at h
 exact List.Pairwise.of_map (Sum.inr : Str → Key) (fun a b z e => z (by rw [e])) h
def q2x {α : Type} (rows : List (Str × α)) : Prop := rows.Pairwise fun a b => ltS a.1 b.1 = true
theorem q5f {α : Type} : ∀ {r r' : List (Str × α)}, q2x r → q2x r' → r.Perm r' → r = r'
 | [], r', _, _, h => (List.nil_perm.mp h).symm
 | a :: r, [], _, _, h => absurd (List.perm_nil.mp h) (by simp)
 | a :: r, b :: r', h1, h2, h => by
  have m1 : a ∈ b :: r' := h.mem_iff.mp (.head _)
  have m2 : b ∈ a :: r := h.mem_iff.mpr (.head _)
  have e : a = b := by
   rcases List.mem_cons.mp m1 with e | m1
   ·exact e
   rcases List.mem_cons.mp m2 with e | m2
   ·exact e.symm
   have q1 := (List.pairwise_cons.mp h1).1 b m2
   have q2 := (List.pairwise_cons.mp h2).1 a m1
   have := qbw q1 q2
   rw [qce] at this
   cases this
  subst e
  rw [q5f (List.pairwise_cons.mp h1).2 (List.pairwise_cons.mp h2).2 (h.cons_inv)]
theorem qd5 {α : Type} (l : List α) (d : α) {p : List Nat} (h : p.Perm (List.range l.length)) : (p.map fun i => l.getD i d).Perm l := by
 have := h.map fun i => l.getD i d
 rw [q3j] at this
 exact this
theorem q2s {α : Type} {l : List α} {i : Nat} {d : α} (h : i < l.length) : l.getD i d = l[i] := by rw [List.getD_eq_getElem?_getD, List.getElem?_eq_getElem h]; rfl
section
variable {X : Cx}
theorem q7d (hc : X.calm = true) : q55 X (.builtin "sorted") (fun xs H Q => ∃ (v d : Addr) (rows : List (Str × V)), xs = [.ref v] ∧ H v = some (.ext fun h => h.IsItemsView v d) ∧ H d = some (.dK (inrs rows)) ∧ rows.length < 64 ∧
  ∀ p as rows' H', H p = none → H' p = some (.lst (as.map V.ref)) → (rows.map (·.1)).Nodup → rows'.Perm rows → q2x rows' → Itms H' as (inrs rows') → Kp [] H H' → Q (.ref p) H') := by
 intro pins s σ H xs us Q I r h
 obtain ⟨v, d, rows, rfl, hv, hd, h64, q⟩ := h
 obtain ⟨u, rfl, ru⟩ := q6g r
 obtain rfl : u = Value.ref v := ru
 obtain ⟨vw, _⟩ := I.hok v _ hv
 obtain ⟨hz, lo, vs, kv, o, es, ep, ho, hx, hdd, hk, hp, hn⟩ := (show q1h X.prog X.w H s.heap d (.dK (inrs rows)) from I.hok d _ hd)
 have hl : vs.length = (inrs rows).length := (Paired.length kv).symm
 have hlr : (inrs rows).length = rows.length := by unfold inrs; rw [List.length_map]
 have nd : (rows.map (·.1)).Nodup := qa3 (by rw [qd8 kv]; exact hn)
 refine Calls.call_function_entry kind_sorted plain_sorted entry_sorted (args_sorted1 _) ?_
 unfold Builtin.«sorted»
 refine wpAny_bind (m := checkCount "sorted" 1 1 _) (wpAny_pure (wpAny_bind (PySem.W.kdx_collect (A := X.A.in1) (knd := q11 X.prog X.w) (kvs := vs) (ep := ep) (I.ok.hd hc) vw ⟨o, es, ho, hx, hdd, hk, hp, hn⟩ (by rw [hl]; exact hz) fun h' tk as kp hlen G => ?_)))
 obtain ⟨H', I', k', T, fr⟩ := q5r (tk := tk) I kv (Nat.le_refl _) kp hlen G
 have las : as.length = rows.length := by rw [hlen, hl, hlr]
 refine wpAny_bind (wpAny_newList ?_ (by rw [List.length_map, hlen, hl]; exact hz))
 have hB : (h'.push (seqObj "list" (as.map Value.ref).toArray 0)).get? h'.objs.size = some (seqObj "list" (as.map Value.ref).toArray 0) := Heap.get?_push_size _ rfl
 have Tp : Tups (h'.push (seqObj "list" (as.map Value.ref).toArray 0)) (as.map Value.ref) (rows.map (·.1)) := ⟨by rw [List.length_map, List.length_map, las], fun i u x e1 e2 => by
  rw [List.getElem?_map] at e1 e2
  cases ea : as[i]? with
  | none => rw [ea] at e1; cases e1
  | some a =>
   cases er : rows[i]? with
   | none => rw [er] at e2; cases e2
   | some row =>
    rw [ea] at e1
    rw [er] at e2
    cases e1
    cases e2
    have ha := T.at_ i a ((Sum.inr row.1 : Key), row.2) ea (by unfold inrs; rw [List.getElem?_map, er]; rfl)
    obtain ⟨_, its, rt, ob, h1, h2, m, h3⟩ := (show q1h X.prog X.w H' h' a (.tup [kV (Sum.inr row.1), row.2]) from I'.hok a _ ha)
    obtain ⟨u1, u2, rfl, r1, r2⟩ := qjf rt
    obtain ⟨t, rfl⟩ := r1
    exact ⟨a, ob, t, u2, m, rfl, Heap.get?_push_of_some _ h1, h2, h3⟩⟩
 refine wpAny_bind (wpAny_holding (wpAny_call_entry slot_list_sort ⟨_, hB, rfl⟩ entry_list_sort (qd2 hB Tp nd (by rw [List.length_map, las]; exact h64) fun hf c p kf hc' pp up => ⟨_, rfl, wpAny_pure ⟨_, rfl, ?_⟩⟩) (args_list_sort _)))
 have kpf : ∀ b ob, h'.get? b = some ob → hf.get? b = some ob := fun b ob e => kf b ob (Nat.ne_of_lt (Heap.lt_size e)) (Heap.get?_push_of_some _ e)
 have pp' : p.Perm (List.range rows.length) := by rw [← las, ← List.length_map (f := Value.ref) (as := as)]; exact pp
 have bd : ∀ i ∈ p, i < rows.length := fun i hi => List.mem_range.mp (pp'.mem_iff.mp hi)
 have lp : p.length = rows.length := by have := pp'.length_eq; rwa [List.length_range] at this
 have em : (p.map fun i => (as.map Value.ref).getD i Value.none) = (p.map fun i => as.getD i 0).map Value.ref := by
  rw [List.map_map]
  refine List.map_congr_left fun i hi => ?_
  have h1 : i < as.length := by rw [las]; exact bd i hi
  show (as.map Value.ref).getD i Value.none = Value.ref (as.getD i 0)
  rw [q2s (by rw [List.length_map]; exact h1), List.getElem_map, q2s h1]
 rw [em] at hc'
 have I2 : Inv X pins σ (upd H' h'.objs.size (.lst ((p.map fun i => as.getD i 0).map V.ref))) { s with heap := hf, toks := tk } := I'.laid (t' := tk) (o := .lst ((p.map fun i => as.getD i 0).map V.ref)) kpf (Nat.le_refl _) ⟨by rw [List.length_map, List.length_map, lp, ← hlr]; exact hz, (p.map fun i => as.getD i 0).map Value.ref, c, q3w _, hc'⟩
 have hn' : H' h'.objs.size = none := I'.fresh
 refine ⟨.ref h'.objs.size, _, I2, rfl, q _ (p.map fun i => as.getD i 0) (p.map fun i => rows.getD i (⟨#[]⟩, .int 0)) _ (k'.free hn') q05 nd (qd5 _ _ pp') ?_ ⟨?_, fun j a kv e1 e2 => ?_⟩ (k'.trans (Kp.new hn'))⟩
 ·unfold q2x
  rw [List.pairwise_iff_getElem]
  intro i j hi hj hij
  have hi' : i < p.length := by simpa using hi
  have hj' : j < p.length := by simpa using hj
  have b1 := bd _ (List.getElem_mem hi')
  have b2 := bd _ (List.getElem_mem hj')
  have := up i j p[i] p[j] hij (List.getElem?_eq_getElem hi') (List.getElem?_eq_getElem hj')
  unfold gx at this
  rw [List.getElem?_map, List.getElem?_map, List.getElem?_eq_getElem b1, List.getElem?_eq_getElem b2] at this
  rw [List.getElem_map, List.getElem_map, q2s b1, q2s b2]
  exact this
 ·unfold inrs
  rw [List.length_map, List.length_map, List.length_map]
 ·unfold inrs at e2
  rw [List.getElem?_map] at e1 e2
  rw [List.getElem?_map] at e2
  cases ei : p[j]? with
  | none => rw [ei] at e1; cases e1
  | some i =>
   rw [ei] at e1 e2
   have b1 := bd i (List.mem_of_getElem? ei)
   have b2 : i < as.length := by rw [las]; exact b1
   cases e1
   cases e2
   dsimp only
   rw [q2s b1, q2s b2]
   have ha := T.at_ i as[i] ((Sum.inr rows[i].1 : Key), rows[i].2) (List.getElem?_eq_getElem b2) (by unfold inrs; rw [List.getElem?_map, List.getElem?_eq_getElem b1]; rfl)
   rw [q08 (q09 ha hn')]
   exact ha
end
end L2
end
section
namespace L2
open PySem PySem.Spec PyProof.Rows
end L2
end
section
namespace K08
open PySem L2
def top (i : Nat) : Stmt := PySem.Challenge.pw_trailbook_k08_whole_late_ones.main.body.getD i (.Pass ⟨0, 0, 0, 0⟩)
abbrev sDo : Stmt := (top 7)
abbrev sUn : Stmt := (top 8)
abbrev sBeh : Stmt := (top 9)
abbrev sNx : Stmt := (top 10)
abbrev qa5 : Stmt := (q18 (top 5) 0)
abbrev sHas : Stmt := (q18 (top 5) 1)
abbrev qau : Stmt := (q18 (top 5) 2)
abbrev q5v : Stmt := (q18 (top 5) 3)
abbrev qal : Stmt := (q18 (top 5) 4)
abbrev sPut : Stmt := (q18 (top 5) 5)
abbrev qav : Stmt := (q18 (top 5) 6)
abbrev qar : Stmt := (q18 (top 12) 0)
abbrev q3l : Stmt := (q18 (top 12) 1)
abbrev q4s : Stmt := (q18 (top 12) 2)
abbrev rGo : Stmt := (q18 (top 12) 3)
abbrev q2n : Stmt := (q18 (top 12) 4)
abbrev rReq : Stmt := (q18 (top 12) 5)
abbrev qak : Stmt := (q18 (top 12) 6)
abbrev q45 : Stmt := (q18 (top 12) 7)
abbrev q3g : Stmt := (q18 (top 12) 8)
abbrev q3f : Stmt := (q18 (top 12) 9)
abbrev qa7 : Stmt := (q18 (top 12) 10)
abbrev q8q : Stmt := (q18 (top 12) 11)
abbrev qap : Stmt := (q18 (top 12) 12)
abbrev q9w : Stmt := (q18 (top 12) 13)
abbrev q8b : Stmt := (top 14)
abbrev q3q : Stmt := (top 15)
abbrev q3c : Stmt := (top 16)
abbrev q68 : Stmt := (top 17)
structure Blt (mg : Str → Option Value) : Prop where
 len : mg "len" = none
 isinstance : mg "isinstance" = none
 dict : mg "dict" = none
 list_ : mg "list" = none
 tuple : mg "tuple" = none
 int_ : mg "int" = none
 bool : mg "bool" = none
 str : mg "str" = none
 range : mg "range" = none
 enumerate : mg "enumerate" = none
 min : mg "min" = none
 max : mg "max" = none
 sorted : mg "sorted" = none
 set_ : mg "set" = none
 sum_ : mg "sum" = none
 abs : mg "abs" = none
 zip : mg "zip" = none
 any_ : mg "any" = none
 all_ : mg "all" = none
 reversed : mg "reversed" = none
abbrev En := Str × Int
inductive Nx where
 | dO (i : Int) | un (i : Int) | dn | ud
 deriving DecidableEq
def Nx.vs : Nx → List V
 | .dO i => [.str "do", .int i]
 | .un i => [.str "undo", .int i]
 | .dn => [.str "end", .str "done"]
 | .ud => [.str "end", .str "undone"]
def enV (e : En) : List V := [.str e.1, .int e.2]
def doD (m s : Int) : Nx := if s < m then .dO s else .dn
def unD (s : Int) : Nx := if 0 ≤ s then .un s else .ud
def nb (m : Int) (e : En) : Nx := if e.1 = "did" then doD m (e.2 + 1) else if e.1 = "unsure" then unD e.2 else unD (e.2 - 1)
def nxOf (m : Int) (t : List En) : Nx := match t.getLast? with
 | none => doD m 0
 | some e => nb m e
def q5p (e : En) : Nx → Bool
 | .dO i => decide ((e.1 = "did" ∨ e.1 = "no" ∨ e.1 = "unsure") ∧ e.2 = i)
 | .un i => decide (e.1 = "undid" ∧ e.2 = i)
 | _ => false
theorem q2p {α : Type} {l : List α} {i : Nat} {x : α} (h : l[i]? = some x) : l.take (i + 1) = l.take i ++ [x] := by
 rw [List.take_add_one, h]; rfl
theorem q2g (m : Int) (t : List En) (e : En) : nxOf m (t ++ [e]) = nb m e := by
 unfold nxOf
 rw [List.getLast?_append]
 rfl
structure Ents (H : Hp) (as : List Addr) (t : List En) : Prop where
 len : as.length = t.length
 at_ : ∀ (i : Nat) a e, as[i]? = some a → t[i]? = some e → H a = some (.tup (enV e))
theorem Ents.keep {H H' : Hp} {as : List Addr} {t : List En} {ex : List Addr} (h : Ents H as t) (k : Kp ex H H') (hn : ∀ a ∈ ex, ∀ e, H a ≠ some (.tup e)) : Ents H' as t :=
 ⟨h.len, fun i a e e1 e2 => k.get (h.at_ i a e e1 e2) fun z => hn a z _ (h.at_ i a e e1 e2)⟩
theorem Ents.same {H H' : Hp} {as : List Addr} {t : List En} (h : Ents H as t) (k : Kp [] H H') : Ents H' as t := h.keep k (by simp)
theorem Ents.get {H : Hp} {as : List Addr} {t : List En} (h : Ents H as t) {i : Nat} {a : Addr} (e : as[i]? = some a) : ∃ x, t[i]? = some x ∧ H a = some (.tup (enV x)) := by
 have hi : i < t.length := by rw [← h.len]; exact (List.getElem?_eq_some_iff.mp e).1
 exact ⟨t[i], List.getElem?_eq_getElem hi, h.at_ i a _ e (List.getElem?_eq_getElem hi)⟩
theorem q3o {α : Type} {l : List α} (h : l ≠ []) : ∃ l' x, l = l' ++ [x] := ⟨l.dropLast, l.getLast h, (List.dropLast_concat_getLast h).symm⟩
theorem Ents.snoc {H : Hp} {as : List Addr} {t : List En} (h : Ents H as t) (hn : as ≠ []) : ∃ as' a t' e, as = as' ++ [a] ∧ t = t' ++ [e] ∧ H a = some (.tup (enV e)) ∧ Ents H as' t' := by
 have ht : t ≠ [] := fun z => by have := h.len; rw [z] at this; exact hn (List.length_eq_zero_iff.mp this)
 obtain ⟨as', a, rfl⟩ := q3o hn
 obtain ⟨t', e, rfl⟩ := q3o ht
 have hl : as'.length = t'.length := by have := h.len; simp at this; exact this
 refine ⟨as', a, t', e, rfl, rfl, h.at_ as'.length a e (by simp) (by rw [hl]; simp), hl, fun i b x e1 e2 => h.at_ i b x ?_ ?_⟩
 ·rw [List.getElem?_append_left (List.getElem?_eq_some_iff.mp e1).1]; exact e1
 ·rw [List.getElem?_append_left (List.getElem?_eq_some_iff.mp e2).1]; exact e2
theorem Ents.app {H : Hp} {as bs : List Addr} {t u : List En} (h : Ents H as t) (h' : Ents H bs u) : Ents H (as ++ bs) (t ++ u) := by
 refine ⟨by simp [h.len, h'.len], fun i a e e1 e2 => ?_⟩
 by_cases hi : i < as.length
 ·rw [List.getElem?_append_left hi] at e1
  rw [List.getElem?_append_left (by rw [← h.len]; exact hi)] at e2
  exact h.at_ i a e e1 e2
 ·rw [List.getElem?_append_right (by omega)] at e1
  rw [List.getElem?_append_right (by rw [← h.len]; omega)] at e2
  exact h'.at_ _ a e e1 (by rw [h.len]; exact e2)
theorem Ents.one {H : Hp} {a : Addr} {e : En} (h : H a = some (.tup (enV e))) : Ents H [a] [e] := ⟨rfl, fun i b x e1 e2 => by
 cases i with
 | zero => simp at e1 e2; subst e1 e2; exact h
 | succ n => simp at e1⟩
theorem Ents.nil (H : Hp) : Ents H [] [] := ⟨rfl, fun i a e e1 _ => by simp at e1⟩
structure TrAt (H : Hp) (l : Addr) (as : List Addr) (t : List En) : Prop where
 ls : H l = some (.lst (as.map V.ref))
 en : Ents H as t
theorem TrAt.same {H H' : Hp} {l : Addr} {as : List Addr} {t : List En} (h : TrAt H l as t) (k : Kp [] H H') : TrAt H' l as t := ⟨k.get h.ls nEm, h.en.same k⟩
def spDo : Sp := fun vs H Q _ => ∃ m s : Int, vs = [.int m, .int s] ∧ ∀ p H', H p = none → H' p = some (.tup (doD m s).vs) → Kp [] H H' → Q (.ref p) H'
def spUn : Sp := fun vs H Q _ => ∃ s : Int, vs = [.int s] ∧ ∀ p H', H p = none → H' p = some (.tup (unD s).vs) → Kp [] H H' → Q (.ref p) H'
def qix : Sp := fun vs H Q _ => ∃ (m : Int) (e : En), vs = [.int m, .str e.1, .int e.2] ∧ ∀ p H', H p = none → H' p = some (.tup (nb m e).vs) → Kp [] H H' → Q (.ref p) H'
def spNx : Sp := fun vs H Q _ => ∃ (m : Int) (l : Addr) (as : List Addr) (t : List En), vs = [.int m, .ref l] ∧ TrAt H l as t ∧ ∀ p H', H p = none → H' p = some (.tup (nxOf m t).vs) → Kp [] H H' → Q (.ref p) H'
section
variable {P : Program} {w : World} {K : PySem.W.Frag} {mg : Str → Option Value} {base : Heap}
theorem qkd : FnScope ["many", "step"] ["many", "step"] (q03 sDo) := ⟨rfl, rfl, rfl, by decide +kernel, rfl, by decide +kernel, by decide +kernel⟩
theorem qkh {f : Addr} {fd : FuncData} (Fn : Fun K "do_or_done" "do_or_done" sDo f fd) : FnOk P w K mg base CX0 1 f fd ["many", "step"] spDo := by
 refine Fn.ok qkd (fun vs H Q E h => ?_) (fun cdv A outer s H vs Q E hr h => ?_)
 ·obtain ⟨m, i, rfl, _⟩ := h
  rfl
 ·obtain ⟨m, i, rfl, k⟩ := h
  refine ⟨_, (q02 (q0w (q0h qa8 (pv 1) (pv 0) (q0q _))
   (q06 (q0a (q1g (q00 q0e (q00 (pv 1) q04)))))
   q0b)
   (q06 (q0a (q1g (q00 q0e (q00 q0e q04)))))), ?_⟩
  unfold doD at k
  refine ⟨_, rfl, _, rfl, _, _, rfl, rfl, _, rfl, ?_⟩
  refine ite2 (fun h => ?_) (fun h => ?_)
  ·rw [if_pos (of_decide_eq_true h)] at k
   exact ⟨_, rfl, (by show 2 ≤ sizeLine; decide), fun p hp => k p _ hp q05 (Kp.new hp)⟩
  ·rw [if_neg (fun z => h (decide_eq_true z))] at k
   exact ⟨(by show 2 ≤ sizeLine; decide), fun p hp => k p _ hp q05 (Kp.new hp)⟩
theorem qk5 : FnScope ["step"] ["step"] (q03 sUn) := ⟨rfl, rfl, rfl, by decide +kernel, rfl, by decide +kernel, by decide +kernel⟩
theorem qjy {f : Addr} {fd : FuncData} (Fn : Fun K "undo_or_undone" "undo_or_undone" sUn f fd) : FnOk P w K mg base CX0 1 f fd ["step"] spUn := by
 refine Fn.ok qk5 (fun vs H Q E h => ?_) (fun cdv A outer s H vs Q E hr h => ?_)
 ·obtain ⟨i, rfl, _⟩ := h
  rfl
 ·obtain ⟨i, rfl, k⟩ := h
  refine ⟨_, (q02 (q0w (q0h qdv (pv 0) q01 (q0q _))
   (q06 (q0a (q1g (q00 q0e (q00 (pv 0) q04)))))
   q0b)
   (q06 (q0a (q1g (q00 q0e (q00 q0e q04)))))), ?_⟩
  unfold unD at k
  refine ⟨_, rfl, _, _, rfl, rfl, _, rfl, ?_⟩
  refine ite2 (fun h => ?_) (fun h => ?_)
  ·rw [if_pos (of_decide_eq_true h)] at k
   exact ⟨_, rfl, (by show 2 ≤ sizeLine; decide), fun p hp => k p _ hp q05 (Kp.new hp)⟩
  ·rw [if_neg (fun z => h (decide_eq_true z))] at k
   exact ⟨(by show 2 ≤ sizeLine; decide), fun p hp => k p _ hp q05 (Kp.new hp)⟩
theorem qj6 : FnScope ["many", "word", "step"] ["many", "word", "step"] (q03 sBeh) := ⟨rfl, rfl, rfl, by decide +kernel, rfl, by decide +kernel, by decide +kernel⟩
theorem qhx {f : Addr} {fd : FuncData} (Fn : Fun K "next_behind" "next_behind" sBeh f fd) (Ddo_or_done : Df P w K mg base CX0 1 "do_or_done" ["many", "step"] spDo) (Dundo_or_undone : Df P w K mg base CX0 1 "undo_or_undone" ["step"] spUn) :
  FnOk P w K mg base CX0 2 f fd ["many", "word", "step"] qix := by
 refine Fn.ok qj6 (fun vs H Q E h => ?_) (fun cdv A outer s H vs Q E hr h => ?_)
 ·obtain ⟨m, e, rfl, _⟩ := h
  rfl
 ·obtain ⟨m, ⟨x, i⟩, rfl, k⟩ := h
  refine ⟨_, (q02 (q0w (q0h q23 (pv 1) q0e (q0q _))
   (q06 (q0a (q0z Ddo_or_done (hr.mono (by decide)) q0m (q00 (pv 0) (q00 (q0d q24 (pv 2) q01) q04)))))
   q0b)
   (q02 (q0w (q0h q23 (pv 1) q0e (q0q _))
   (q06 (q0a (q0z Dundo_or_undone (hr.mono (by decide)) q0m (q00 (pv 2) q04))))
   q0b)
   (q06 (q0a (q0z Dundo_or_undone (hr.mono (by decide)) q0m (q00 (q0d q4j (pv 2) q01) q04)))))), ?_⟩
  unfold nb at k
  dsimp only at k
  refine ⟨_, rfl, rfl, _, rfl, ?_⟩
  refine ite2 (fun h => ?_) (fun h => ?_)
  ·have h := V.str.inj (of_decide_eq_true h)
   rw [if_pos h] at k
   exact ⟨_, rfl, _, rfl, _, _, rfl, rfl, m, i + 1, rfl, k⟩
  ·rw [if_neg (fun z => h (decide_eq_true (congrArg V.str z)))] at k
   refine ⟨_, rfl, rfl, _, rfl, ?_⟩
   refine ite2 (fun h => ?_) (fun h => ?_)
   ·have h := V.str.inj (of_decide_eq_true h)
    rw [if_pos h] at k
    exact ⟨_, rfl, i, rfl, k⟩
   ·rw [if_neg (fun z => h (decide_eq_true (congrArg V.str z)))] at k
    exact ⟨_, rfl, _, _, rfl, rfl, i - 1, rfl, k⟩
theorem qii : FnScope ["many", "trail", "last"] ["many", "trail"] (q03 sNx) := ⟨rfl, rfl, rfl, by decide +kernel, rfl, by decide +kernel, by decide +kernel⟩
theorem qka {f : Addr} {fd : FuncData} (Fn : Fun K "next_of" "next_of" sNx f fd) (Ddo_or_done : Df P w K mg base CX0 1 "do_or_done" ["many", "step"] spDo) (Dnext_behind : Df P w K mg base CX0 2 "next_behind" ["many", "word", "step"] qix) :
  FnOk P w K mg base CX0 3 f fd ["many", "trail"] spNx := by
 refine Fn.ok qii (fun vs H Q E h => ?_) (fun cdv A outer s H vs Q E hr h => ?_)
 ·obtain ⟨m, l, as, t, rfl, _⟩ := h
  rfl
 ·obtain ⟨m, l, as, t, rfl, T, k⟩ := h
  have nd := qii.nd
  refine ⟨_, (q02 (q0w (q1a (qde (pv 1) (fun _ => rfl)))
   (q06 (q0a (q0z Ddo_or_done (hr.mono (by decide)) q0m (q00 (pv 0) (q00 q01 q04)))))
   q0b)
   (q02 (q0r (i := 2) nd rfl (Or.inl rfl) (q0j q13 (pv 1) (qg8 qbz q01) (fun _ _ => rfl)))
   (q06 (q0a (q0z Dnext_behind (hr.mono (by decide)) q0m (q00 (pv 0) (q00 (q0j q0i (pv 2) q01 (fun _ _ => rfl)) (q00 (q0j q0i (pv 2) q01 (fun _ _ => rfl)) q04)))))))), ?_⟩
  refine ⟨_, rfl, _, .inl ⟨_, SqL.of T.ls, rfl⟩, ?_⟩
  by_cases hn : as = []
  ·subst hn
   have ht : t = [] := List.length_eq_zero_iff.mp T.en.len.symm
   subst ht
   refine iteT ?_
   exact ⟨_, rfl, m, 0, rfl, k⟩
  ·obtain ⟨as', a, t', ⟨x, i⟩, rfl, rfl, ha, _⟩ := T.en.snoc hn
   rw [q2g] at k
   have e1 : (!(List.map V.ref (as' ++ [a])).isEmpty) = true := by simp
   rw [e1]
   refine iteF ?_
   refine ⟨_, rfl, _, rfl, l, _, -1, .ref a, rfl, rfl, SqL.of T.ls, ?_, ?_⟩
   ·rw [List.map_append]; exact qe8 _ _
   ·refine ⟨_, rfl, _, rfl, a, _, _, _, rfl, rfl, SqT.of ha, q07 (j := 0) rfl, ?_⟩
    exact ⟨_, rfl, a, _, _, _, rfl, rfl, SqT.of ha, q07 (j := 1) rfl, m, (x, i), rfl, k⟩
end
end K08
end
section
namespace K08
open PySem L2
abbrev Tb := List (Key × V)
abbrev Fb := List (List Key × V)
def getI (T : Tb) (x : Str) : Int := match valV T (Sum.inr x : Key) with
 | some (.int i) => i
 | _ => 0
def q1q (T : Tb) : Prop := ∀ k v, valV T k = some v → ∃ i, v = V.int i
def FV (F : Fb) : Prop := ∀ k v, valV F k = some v → v = .str "did" ∨ v = .str "no" ∨ v = .str "undid"
theorem q1q.get {T : Tb} (h : q1q T) (x : Str) : (valV T (Sum.inr x : Key)).getD (.int 0) = .int (getI T x) := by
 unfold getI
 cases e : valV T (Sum.inr x : Key) with
 | none => rfl
 | some v => obtain ⟨i, rfl⟩ := h _ _ e; rfl
theorem q1q.put {T : Tb} (h : q1q T) (k : Key) (i : Int) : q1q (putK T k (.int i)) := by
 intro j v e
 rw [q1l] at e
 split at e
 ·cases e; exact ⟨i, rfl⟩
 ·exact h j v e
theorem FV.put {F : Fb} (h : FV F) (k : List Key) {v : V} (hv : v = .str "did" ∨ v = .str "no" ∨ v = .str "undid") : FV (putK F k v) := by
 intro j u e
 rw [q1l] at e
 split at e
 ·cases e; exact hv
 ·exact h j u e
theorem FV.str {F : Fb} (h : FV F) {k : List Key} {v : V} (e : valV F k = some v) : ∃ y, v = .str y := by
 rcases h k v e with z | z | z <;> exact ⟨_, z⟩
structure Rq where
 word : Str
 w : Str
 st : Int
 x : Str
 n : Int
def Rq.vs (r : Rq) : List V := [.str r.word, .str r.w, .int r.st, .str r.x, .int r.n]
def kk (w : Str) (st : Int) : List Key := [Sum.inr w, Sum.inl st]
def doM (T : Tb) (F : Fb) (k : List Key) (x : Str) (n : Int) : Str × Tb × Fb := match valV F k with
 | none => if getI T x < n then ("no", T, putK F k (.str "no")) else ("did", putK T (Sum.inr x : Key) (.int (getI T x - n)), putK F k (.str "did"))
 | some v => (if v = .str "did" then "did" else "no", T, F)
def q2y (T : Tb) (F : Fb) (k : List Key) (x : Str) (n : Int) : Str × Tb × Fb :=
 ("undid", if valV F k = some (.str "did") then putK T (Sum.inr x : Key) (.int (getI T x + n)) else T, putK F k (.str "undid"))
def q20 (T : Tb) (F : Fb) (r : Rq) : Str × Tb × Fb := if r.word = "do" then doM T F (kk r.w r.st) r.x r.n else q2y T F (kk r.w r.st) r.x r.n
structure Ok (T : Tb) (F : Fb) (n : Nat) : Prop where
 i : q1q T
 f : FV F
 lt : T.length ≤ n
 lf : F.length ≤ n
theorem Ok.mono {T : Tb} {F : Fb} {n m : Nat} (h : Ok T F n) (l : n ≤ m) : Ok T F m := ⟨h.i, h.f, Nat.le_trans h.lt l, Nat.le_trans h.lf l⟩
theorem qi8 {T : Tb} {F : Fb} {n : Nat} (h : Ok T F n) (k : List Key) (x : Str) (m : Int) : Ok (doM T F k x m).2.1 (doM T F k x m).2.2 (n + 1) := by
 unfold doM
 split
 ·split
  ·exact ⟨h.i, h.f.put k (.inr (.inl rfl)), by have := h.lt; dsimp only; omega, by have := h.lf; have := q0t F k (V.str "no"); dsimp only; omega⟩
  ·exact ⟨h.i.put _ _, h.f.put k (.inl rfl), by have := h.lt; have := q0t T (Sum.inr x : Key) (V.int (getI T x - m)); dsimp only; omega, by have := h.lf; have := q0t F k (V.str "did"); dsimp only; omega⟩
 ·exact h.mono (Nat.le_succ _)
theorem qev {T : Tb} {F : Fb} {n : Nat} (h : Ok T F n) (k : List Key) (x : Str) (m : Int) : Ok (q2y T F k x m).2.1 (q2y T F k x m).2.2 (n + 1) := by
 unfold q2y
 dsimp only
 have lf : (putK F k (V.str "undid")).length ≤ n + 1 := by have := h.lf; have := q0t F k (V.str "undid"); omega
 split
 ·exact ⟨h.i.put _ _, h.f.put k (.inr (.inr rfl)), by have := h.lt; have := q0t T (Sum.inr x : Key) (V.int (getI T x + m)); omega, lf⟩
 ·exact ⟨h.i, h.f.put k (.inr (.inr rfl)), by have := h.lt; omega, lf⟩
theorem qhc {T : Tb} {F : Fb} {n : Nat} (h : Ok T F n) (r : Rq) : Ok (q20 T F r).2.1 (q20 T F r).2.2 (n + 1) := by
 unfold q20
 split
 ·exact qi8 h _ _ _
 ·exact qev h _ _ _
theorem ksf : ¬ (("stock" : Str) = "fates") := by decide +kernel
def flds (s d : Addr) : List (Str × V) := putF "fates" (.ref d) (putF "stock" (.ref s) [])
theorem q3i (s d : Addr) : (flds s d).lookup ("stock" : Str) = some (.ref s) := by
 unfold flds
 rw [q1s, if_neg ksf, q1s, if_pos rfl]
theorem q1z (s d : Addr) : (flds s d).lookup ("fates" : Str) = some (.ref d) := by
 unfold flds
 rw [q1s, if_pos rfl]
theorem q3m (s d : Addr) {m : Str} (h1 : ¬ m = "fates") (h2 : ¬ m = "stock") : (flds s d).lookup m = none := by
 unfold flds
 rw [q1s, if_neg h1, q1s, if_neg h2]
 all_goals rfl
structure DeskAt (C : Addr) (H : Hp) (p s d : Addr) (T : Tb) (F : Fb) : Prop where
 ob : ∃ dx, H p = some (.ins C dx (flds s d))
 st : H s = some (.dK T)
 ft : H d = some (.dT F)
theorem DeskAt.sd {C : Addr} {H : Hp} {p s d : Addr} {T : Tb} {F : Fb} (D : DeskAt C H p s d T F) : s ≠ d := q3k D.st D.ft (by intro z; cases z)
theorem DeskAt.ps {C : Addr} {H : Hp} {p s d : Addr} {T : Tb} {F : Fb} (D : DeskAt C H p s d T F) : p ≠ s := let ⟨_, h⟩ := D.ob; q3k h D.st (by intro z; cases z)
theorem DeskAt.pd {C : Addr} {H : Hp} {p s d : Addr} {T : Tb} {F : Fb} (D : DeskAt C H p s d T F) : p ≠ d := let ⟨_, h⟩ := D.ob; q3k h D.ft (by intro z; cases z)
theorem DeskAt.keep {C : Addr} {H H' : Hp} {p s d : Addr} {T : Tb} {F : Fb} {ex : List Addr} (D : DeskAt C H p s d T F) (k : Kp ex H H') (h1 : p ∉ ex) (h2 : s ∉ ex) (h3 : d ∉ ex) : DeskAt C H' p s d T F :=
 ⟨let ⟨dx, h⟩ := D.ob; ⟨dx, k.get h h1⟩, k.get D.st h2, k.get D.ft h3⟩
theorem DeskAt.same {C : Addr} {H H' : Hp} {p s d : Addr} {T : Tb} {F : Fb} (D : DeskAt C H p s d T F) (k : Kp [] H H') : DeskAt C H' p s d T F := D.keep k (by simp) (by simp) (by simp)
theorem DeskAt.putS {C : Addr} {H : Hp} {p s d : Addr} {T T' : Tb} {F : Fb} (D : DeskAt C H p s d T F) : DeskAt C (upd H s (.dK T')) p s d T' F :=
 ⟨let ⟨dx, h⟩ := D.ob; ⟨dx, by rw [q08 D.ps]; exact h⟩, q05, by rw [q08 D.sd.symm]; exact D.ft⟩
theorem DeskAt.putF {C : Addr} {H : Hp} {p s d : Addr} {T : Tb} {F F' : Fb} (D : DeskAt C H p s d T F) : DeskAt C (upd H d (.dT F')) p s d T F' :=
 ⟨let ⟨dx, h⟩ := D.ob; ⟨dx, by rw [q08 D.pd]; exact h⟩, by rw [q08 D.sd]; exact D.st, q05⟩
def qf5 (C : Addr) : Sp := fun vs H Q _ => ∃ (p dx h : Addr) (T : Tb), vs = [.ref p, .ref h] ∧ H p = some (.ins C dx []) ∧ H h = some (.dK T) ∧
 ∀ (s d : Addr) (H' : Hp), H s = none → H d = none → DeskAt C H' p s d T [] → Kp [p] H H' → Q .non H'
def qg6 (C : Addr) : Sp := fun vs H Q _ => ∃ (p s d : Addr) (T : Tb) (F : Fb) (x : Str), vs = [.ref p, .str x] ∧ DeskAt C H p s d T F ∧ q1q T ∧ Q (.int (getI T x)) H
def qfo (C : Addr) : Sp := fun vs H Q _ => ∃ (p s d : Addr) (T : Tb) (F : Fb) (x : Str) (n : Int), vs = [.ref p, .str x, .int n] ∧ DeskAt C H p s d T F ∧ q1q T ∧ T.length ≤ 900 ∧
 (getI T x < n → Q (.str "no") H) ∧ (¬ getI T x < n → Q (.str "did") (upd H s (.dK (putK T (Sum.inr x : Key) (.int (getI T x - n))))))
def qfu (C : Addr) : Sp := fun vs H Q _ => ∃ (p s d : Addr) (T : Tb) (F : Fb) (x : Str) (n : Int), vs = [.ref p, .str x, .int n] ∧ DeskAt C H p s d T F ∧ q1q T ∧ T.length ≤ 900 ∧
 Q .non (upd H s (.dK (putK T (Sum.inr x : Key) (.int (getI T x + n)))))
def spOp (C : Addr) (M : Tb → Fb → List Key → Str → Int → Str × Tb × Fb) : Sp := fun vs H Q _ => ∃ (p b s d : Addr) (T : Tb) (F : Fb) (k : List Key) (x : Str) (n : Int), vs = [.ref p, .ref b, .str x, .int n] ∧
 H b = some (.tup (k.map kV)) ∧ DeskAt C H p s d T F ∧ Ok T F 900 ∧ ∀ H', DeskAt C H' p s d (M T F k x n).2.1 (M T F k x n).2.2 → Kp [s, d] H H' → Q (.str (M T F k x n).1) H'
def qey (C : Addr) : Sp := fun vs H Q _ => ∃ (p q s d : Addr) (T : Tb) (F : Fb) (r : Rq), vs = [.ref p, .ref q] ∧ H q = some (.tup r.vs) ∧ DeskAt C H p s d T F ∧ Ok T F 900 ∧
 ∀ H', DeskAt C H' p s d (q20 T F r).2.1 (q20 T F r).2.2 → Kp [s, d] H H' → Q (.str (q20 T F r).1) H'
structure Txt (K : PySem.W.Frag) (mg : Str → Option Value) (C : Addr) : Prop where
 cl : Cls K C
 nS : q2h K C "stock"
 nF : q2h K C "fates"
section
variable {P : Program} {w : World} {K : PySem.W.Frag} {mg : Str → Option Value} {base : Heap}
theorem qgu : FnScope ["self", "things"] ["self", "things"] (q03 qa5) := ⟨rfl, rfl, rfl, by decide +kernel, rfl, by decide +kernel, by decide +kernel⟩
theorem qhf {f C : Addr} {fd : FuncData} (Fn : Fun K "__init__" "Desk.__init__" qa5 f fd) (T : Txt K mg C) (B : Blt mg) : FnOk P w K mg base CX0 1 f fd ["self", "things"] (qf5 C) := by
 refine Fn.ok qgu (fun vs H Q E h => ?_) (fun cdv A outer s H vs Q E hr h => ?_)
 ·obtain ⟨p, dx, h, T, rfl, _⟩ := h
  rfl
 ·obtain ⟨p, dx, h, Tt, rfl, hp, hh, k⟩ := h
  refine ⟨_, (q02 (q2v (pv 0) (q27 q7f rfl B.dict PyProof.Rows.boot_dict (q00 (pv 1) q04)) rfl)
   (q06 (q2v (pv 0) qeh rfl))), ?_⟩
  refine ⟨_, rfl, h, Tt, rfl, .inl hh, fun s hs => ⟨_, rfl, p, C, dx, [], rfl, ?_, T.cl, T.nS, (by show 0 < 1000; decide), fun d hd => ⟨_, rfl, p, C, dx, L2.putF "stock" (.ref s) [], rfl, ?_, T.cl, T.nF, (by show 1 < 1000; decide), ?_⟩⟩⟩
  ·rw [q08 (q09 hp hs)]; exact hp
  ·rw [q08 (q09 q05 hd), q05]
  ·obtain ⟨ndp, hd1⟩ := q1r hd
   obtain ⟨nds, hd2⟩ := q1r hd1
   have nps : p ≠ s := q09 hp hs
   refine k s d _ hs hd2 ⟨⟨dx, q05⟩, ?_, ?_⟩ ?_
   ·rw [q08 nps.symm, q08 nds.symm, q08 nps.symm, q05]
   ·rw [q08 ndp, q05]
   ·intro b o e n
    have nb : b ≠ p := fun z => n (by simp [z])
    rw [q08 nb, q08 (q09 e hd2), q08 nb, q08 (q09 e hs)]
    exact e
theorem qiv : FnScope ["self", "thing"] ["self", "thing"] (q03 sHas) := ⟨rfl, rfl, rfl, by decide +kernel, rfl, by decide +kernel, by decide +kernel⟩
theorem qic {f C : Addr} {fd : FuncData} (Fn : Fun K "has" "Desk.has" sHas f fd) (T : Txt K mg C) : FnOk P w K mg base CX0 1 f fd ["self", "thing"] (qg6 C) := by
 refine Fn.ok qiv (fun vs H Q E h => ?_) (fun cdv A outer s H vs Q E hr h => ?_)
 ·obtain ⟨p, s, d, T, F, x, rfl, _⟩ := h
  rfl
 ·obtain ⟨p, s, d, Tt, F, x, rfl, D, hi, k⟩ := h
  have hu := q3r hr
  obtain ⟨dx, hp⟩ := D.ob
  refine ⟨_, (q06 (q0a (q9i hu (q12 (pv 0) rfl) (pv 1) q01 ⟨rfl, rfl, rfl, rfl⟩))), ?_⟩
  refine ⟨_, rfl, p, C, dx, _, _, rfl, hp, T.cl, T.nS, q3i _ _, s, rfl, .inl ⟨_, .inl D.st⟩, _, rfl, _, DGet.k (k := Sum.inr x) D.st, ?_⟩
  rw [hi.get x]
  exact k
theorem qg3 : FnScope ["self", "thing", "many"] ["self", "thing", "many"] (q03 qal) := ⟨rfl, rfl, rfl, by decide +kernel, rfl, by decide +kernel, by decide +kernel⟩
theorem qgd {f C : Addr} {fd : FuncData} (Fn : Fun K "take" "Desk.take" qal f fd) (T : Txt K mg C) (DDesk_has : Md P w K mg base CX0 C 1 "has" ["self", "thing"] (qg6 C)) : FnOk P w K mg base CX0 2 f fd ["self", "thing", "many"] (qfo C) := by
 refine Fn.ok qg3 (fun vs H Q E h => ?_) (fun cdv A outer s H vs Q E hr h => ?_)
 ·obtain ⟨p, s, d, T, F, x, n, rfl, _⟩ := h
  rfl
 ·obtain ⟨p, s, d, Tt, F, x, n, rfl, D, hi, hl, k1, k2⟩ := h
  have hu := q3r hr
  obtain ⟨dx, hp⟩ := D.ob
  have nh : (flds s d).lookup ("has" : Str) = none := q3m _ _ (by decide +kernel) (by decide +kernel)
  refine ⟨_, (q02 (q0w (q0h qa8 (q31 DDesk_has (hr.mono (by decide)) q0m (pv 0) (q00 (pv 1) q04)) (pv 2) (q0q _))
   (q06 (q0a q0e))
   q0b)
   (q02 (q28 hu (q12 (pv 0) rfl) (pv 1) (q0d q4j (q31 DDesk_has (hr.mono (by decide)) q0m (pv 0) (q00 (pv 1) q04)) (pv 2)) rfl)
   (q06 (q0a q0e)))), ?_⟩
  refine ⟨_, rfl, p, dx, _, rfl, hp, nh, _, rfl, p, s, d, Tt, F, x, rfl, D, hi, ?_⟩
  refine ⟨_, rfl, _, _, rfl, rfl, _, rfl, ?_⟩
  refine ite2 (fun h => k1 (of_decide_eq_true h)) (fun h => ?_)
  have h' : ¬ getI Tt x < n := fun z => h (decide_eq_true z)
  refine ⟨_, rfl, p, dx, _, rfl, hp, nh, _, rfl, p, s, d, Tt, F, x, rfl, D, hi, ?_⟩
  refine ⟨_, rfl, _, _, rfl, rfl, _, rfl, p, C, dx, _, _, rfl, hp, T.cl, T.nS, q3i _ _, _, rfl, s, _, rfl, DPut.k (k := Sum.inr x) D.st (q33 (by omega)), ?_⟩
  exact k2 h'
theorem qex : FnScope ["self", "key", "thing", "many"] ["self", "key", "thing", "many"] (q03 q5v) := ⟨rfl, rfl, rfl, by decide +kernel, rfl, by decide +kernel, by decide +kernel⟩
theorem qj8 {f C : Addr} {fd : FuncData} (Fn : Fun K "do" "Desk.do" q5v f fd) (T : Txt K mg C) (DDesk_take : Md P w K mg base CX0 C 2 "take" ["self", "thing", "many"] (qfo C)) : FnOk P w K mg base CX0 3 f fd ["self", "key", "thing", "many"] (spOp C doM) := by
 refine Fn.ok qex (fun vs H Q E h => ?_) (fun cdv A outer s H vs Q E hr h => ?_)
 ·obtain ⟨p, b, s, d, T, F, k, x, n, rfl, _⟩ := h
  rfl
 ·obtain ⟨p, b, s, d, Tt, F, ky, x, n, rfl, hb, D, ok, k⟩ := h
  have hu := q3r hr
  obtain ⟨dx, hp⟩ := D.ob
  have nt : (flds s d).lookup ("take" : Str) = none := q3m _ _ (by decide +kernel) (by decide +kernel)
  have nbs : b ≠ s := q3k hb D.st (by intro z; cases z)
  have nbd : b ≠ d := q3k hb D.ft (by intro z; cases z)
  refine ⟨_, (q02 (q0w (q4k (q54 hu (pv 1) (q12 (pv 0) rfl)))
   (q06 (q28 hu (q12 (pv 0) rfl) (pv 1) (q31 DDesk_take (hr.mono (by decide)) q0m (pv 0) (q00 (pv 2) (q00 (pv 3) q04))) rfl))
   q0b)
   (q06 (q0a (q6o (q0h q23 (q4b hu (q12 (pv 0) rfl) (pv 1) (fun _ _ => rfl)) q0e (q0q _)) q0e q0e)))), ?_⟩
  refine ⟨_, rfl, _, rfl, p, C, dx, _, _, rfl, hp, T.cl, T.nF, q1z _ _, d, _, rfl, DGet.t (k := ky) D.ft hb, _, rfl, ?_⟩
  have last : ∀ (H1 : Hp) (T1 : Tb) (F1 : Fb) (v : V), DeskAt C H1 p s d T1 F1 → H1 b = some (.tup (ky.map kV)) → valV F1 ky = some v → (∃ y, v = .str y) → (Q (.str (if v = .str "did" then "did" else "no")) H1) →
    tRet (tIf (qhb (tOp rEq (qjg (tFld K (tVar 0) "fates") (tVar 1)) (tC (.str "did")))) (tC (.str "did")) (tC (.str "no"))) { nx := fun _ H' => Q .non H', rt := Q } (start ["self", "key", "thing", "many"] [.ref p, .ref b, .str x, .int n]) H1 := by
   intro H1 T1 F1 v D1 hb1 hv ⟨y, ey⟩ q
   subst ey
   obtain ⟨dx1, hp1⟩ := D1.ob
   refine ⟨_, rfl, p, C, dx1, _, _, rfl, hp1, T.cl, T.nF, q1z _ _, _, rfl, d, .str y, rfl, ?_, rfl, _, rfl, ?_⟩
   ·have := DGet.t (k := ky) D1.ft hb1
    rw [hv] at this
    exact this
   ·by_cases e : V.str y = V.str "did"
    ·rw [if_pos e] at q
     rw [decide_eq_true e]
     exact iteT q
    ·rw [if_neg e] at q
     rw [decide_eq_false e]
     exact iteF q
  cases e : valV F ky with
  | some v =>
   refine iteF ?_
   refine last H Tt F v D hb e (ok.f.str e) ?_
   have em : doM Tt F ky x n = ((if v = .str "did" then "did" else "no" : Str), Tt, F) := by unfold doM; rw [e]
   rw [em] at k
   exact k H D (Kp.refl _ _)
  | none =>
   refine iteT ?_
   refine ⟨_, rfl, p, dx, _, rfl, hp, nt, _, rfl, _, rfl, p, s, d, Tt, F, x, n, rfl, D, ok.i, ok.lt, fun hlt => ?_, fun hlt => ?_⟩
   ·refine ⟨_, rfl, p, C, dx, _, _, rfl, hp, T.cl, T.nF, q1z _ _, _, rfl, d, _, rfl, DPut.t (k := ky) D.ft hb (q33 (by have := ok.lf; omega)), ?_⟩
    have em : doM Tt F ky x n = (("no" : Str), Tt, putK F ky (.str "no")) := by unfold doM; rw [e]; exact if_pos hlt
    rw [em] at k
    refine last _ Tt (putK F ky (.str "no")) (.str "no") D.putF (by rw [q08 nbd]; exact hb) (by rw [q1l, if_pos rfl]) ⟨_, rfl⟩ ?_
    rw [if_neg (by decide +kernel)]
    exact k _ D.putF (Kp.put (by simp))
   ·have D1 := D.putS (T' := putK Tt (Sum.inr x : Key) (.int (getI Tt x - n)))
    obtain ⟨dx1, hp1⟩ := D1.ob
    have hb1 : (upd H s (.dK (putK Tt (Sum.inr x : Key) (.int (getI Tt x - n))))) b = some (.tup (ky.map kV)) := by rw [q08 nbs]; exact hb
    refine ⟨_, rfl, p, C, dx1, _, _, rfl, hp1, T.cl, T.nF, q1z _ _, _, rfl, d, _, rfl, DPut.t (k := ky) D1.ft hb1 (q33 (by have := ok.lf; omega)), ?_⟩
    have em : doM Tt F ky x n = (("did" : Str), putK Tt (Sum.inr x : Key) (.int (getI Tt x - n)), putK F ky (.str "did")) := by unfold doM; rw [e]; exact if_neg hlt
    rw [em] at k
    refine last _ _ (putK F ky (.str "did")) (.str "did") D1.putF (by rw [q08 nbd]; exact hb1) (by rw [q1l, if_pos rfl]) ⟨_, rfl⟩ ?_
    rw [if_pos rfl]
    exact k _ D1.putF ((Kp.put (by simp)).trans (Kp.put (by simp)))
theorem qig : FnScope ["self", "thing", "many"] ["self", "thing", "many"] (q03 sPut) := ⟨rfl, rfl, rfl, by decide +kernel, rfl, by decide +kernel, by decide +kernel⟩
theorem qi9 {f C : Addr} {fd : FuncData} (Fn : Fun K "put" "Desk.put" sPut f fd) (T : Txt K mg C) (DDesk_has : Md P w K mg base CX0 C 1 "has" ["self", "thing"] (qg6 C)) : FnOk P w K mg base CX0 2 f fd ["self", "thing", "many"] (qfu C) := by
 refine Fn.ok qig (fun vs H Q E h => ?_) (fun cdv A outer s H vs Q E hr h => ?_)
 ·obtain ⟨p, s, d, T, F, x, n, rfl, _⟩ := h
  rfl
 ·obtain ⟨p, s, d, Tt, F, x, n, rfl, D, hi, hl, k⟩ := h
  have hu := q3r hr
  obtain ⟨dx, hp⟩ := D.ob
  have nh : (flds s d).lookup ("has" : Str) = none := q3m _ _ (by decide +kernel) (by decide +kernel)
  refine ⟨_, (q06 (q28 hu (q12 (pv 0) rfl) (pv 1) (q0d q24 (q31 DDesk_has (hr.mono (by decide)) q0m (pv 0) (q00 (pv 1) q04)) (pv 2)) rfl)), ?_⟩
  refine ⟨_, rfl, p, dx, _, rfl, hp, nh, _, rfl, p, s, d, Tt, F, x, rfl, D, hi, ?_⟩
  refine ⟨_, rfl, _, _, rfl, rfl, _, rfl, p, C, dx, _, _, rfl, hp, T.cl, T.nS, q3i _ _, _, rfl, s, _, rfl, DPut.k (k := Sum.inr x) D.st (q33 (by omega)), ?_⟩
  exact k
theorem qh7 : FnScope ["self", "key", "thing", "many"] ["self", "key", "thing", "many"] (q03 qav) := ⟨rfl, rfl, rfl, by decide +kernel, rfl, by decide +kernel, by decide +kernel⟩
theorem qdu {f C : Addr} {fd : FuncData} (Fn : Fun K "undo" "Desk.undo" qav f fd) (T : Txt K mg C) (DDesk_put : Md P w K mg base CX0 C 2 "put" ["self", "thing", "many"] (qfu C)) : FnOk P w K mg base CX0 3 f fd ["self", "key", "thing", "many"] (spOp C q2y) := by
 refine Fn.ok qh7 (fun vs H Q E h => ?_) (fun cdv A outer s H vs Q E hr h => ?_)
 ·obtain ⟨p, b, s, d, T, F, k, x, n, rfl, _⟩ := h
  rfl
 ·obtain ⟨p, b, s, d, Tt, F, ky, x, n, rfl, hb, D, ok, k⟩ := h
  have hu := q3r hr
  obtain ⟨dx, hp⟩ := D.ob
  have nh : (flds s d).lookup ("put" : Str) = none := q3m _ _ (by decide +kernel) (by decide +kernel)
  have nbs : b ≠ s := q3k hb D.st (by intro z; cases z)
  have nbd : b ≠ d := q3k hb D.ft (by intro z; cases z)
  refine ⟨_, (q02 (q0w (q0h q23 (qdq hu (q12 (pv 0) rfl) (pv 1) ⟨rfl, rfl, rfl, rfl⟩) q0e (q0q _))
   (q06 (q21 (q31 DDesk_put (hr.mono (by decide)) q0m (pv 0) (q00 (pv 2) (q00 (pv 3) q04)))))
   q0b)
   (q02 (q28 hu (q12 (pv 0) rfl) (pv 1) q0e rfl)
   (q06 (q0a q0e)))), ?_⟩
  have sc : scal ((valV F ky).getD .non) (.str "did") = true := by
   cases e : valV F ky with
   | none => rfl
   | some v => obtain ⟨y, rfl⟩ := ok.f.str e; rfl
  refine ⟨_, rfl, p, C, dx, _, _, rfl, hp, T.cl, T.nF, q1z _ _, d, rfl, .inr ⟨_, .inl D.ft⟩, _, rfl, _, DGet.t (k := ky) D.ft hb, sc, _, rfl, ?_⟩
  have tail : ∀ (H1 : Hp) (T1 : Tb), DeskAt C H1 p s d T1 F → H1 b = some (.tup (ky.map kV)) → (∀ H', DeskAt C H' p s d T1 (putK F ky (.str "undid")) → Kp [s, d] H1 H' → Q (.str "undid") H') →
    tSeq (qhw (tFld K (tVar 0) "fates") (tVar 1) (tC (.str "undid"))) (tRet (tC (.str "undid"))) { nx := fun _ H' => Q .non H', rt := Q } (start ["self", "key", "thing", "many"] [.ref p, .ref b, .str x, .int n]) H1 := by
   intro H1 T1 D1 hb1 q
   obtain ⟨dx1, hp1⟩ := D1.ob
   refine ⟨_, rfl, p, C, dx1, _, _, rfl, hp1, T.cl, T.nF, q1z _ _, _, rfl, d, _, rfl, DPut.t (k := ky) D1.ft hb1 (q33 (by have := ok.lf; omega)), ?_⟩
   exact q _ D1.putF (Kp.put (by simp))
  by_cases e : valV F ky = some (.str "did")
  ·have em : q2y Tt F ky x n = (("undid" : Str), putK Tt (Sum.inr x : Key) (.int (getI Tt x + n)), putK F ky (.str "undid")) := by unfold q2y; rw [if_pos e]
   rw [em] at k
   rw [e]
   refine iteT ?_
   refine ⟨_, rfl, p, dx, _, rfl, hp, nh, _, rfl, _, rfl, p, s, d, Tt, F, x, n, rfl, D, ok.i, ok.lt, ?_⟩
   exact tail _ _ D.putS (by rw [q08 nbs]; exact hb) fun H' D' kp => k H' D' ((Kp.put (by simp)).trans kp)
  ·have em : q2y Tt F ky x n = (("undid" : Str), Tt, putK F ky (.str "undid")) := by unfold q2y; rw [if_neg e]
   rw [em] at k
   have en : decide ((valV F ky).getD .non = .str "did") = false := by
    refine decide_eq_false fun z => e ?_
    cases q : valV F ky with
    | none => rw [q] at z; cases z
    | some v => rw [q] at z; rw [show v = V.str "did" from z]
   rw [en]
   refine iteF ?_
   exact tail H Tt D hb k
theorem qca : FnScope ["self", "request", "key"] ["self", "request"] (q03 qau) := ⟨rfl, rfl, rfl, by decide +kernel, rfl, by decide +kernel, by decide +kernel⟩
theorem qfs {f C : Addr} {fd : FuncData} (Fn : Fun K "told" "Desk.told" qau f fd) (T : Txt K mg C) (DDesk_do : Md P w K mg base CX0 C 3 "do" ["self", "key", "thing", "many"] (spOp C doM)) (DDesk_undo : Md P w K mg base CX0 C 3 "undo" ["self", "key", "thing", "many"] (spOp C q2y)) :
  FnOk P w K mg base CX0 4 f fd ["self", "request"] (qey C) := by
 refine Fn.ok qca (fun vs H Q E h => ?_) (fun cdv A outer s H vs Q E hr h => ?_)
 ·obtain ⟨p, q, s, d, T, F, r, rfl, _⟩ := h
  rfl
 ·obtain ⟨p, q, s, d, Tt, F, r, rfl, hq, D, ok, k⟩ := h
  have hu := q3r hr
  have nd := qca.nd
  obtain ⟨dx, hp⟩ := D.ob
  have nm : ∀ m : Str, ¬ m = "fates" → ¬ m = "stock" → (flds s d).lookup m = none := fun m h1 h2 => q3m _ _ h1 h2
  refine ⟨_, (q02 (q0r (i := 2) nd rfl (Or.inl rfl) (q1g (q00 (q0j q0i (pv 1) q01 (fun _ _ => rfl)) (q00 (q0j q0i (pv 1) q01 (fun _ _ => rfl)) q04))))
   (q02 (q0w (q0h q23 (q0j q0i (pv 1) q01 (fun _ _ => rfl)) q0e (q0q _))
   (q06 (q0a (q31 DDesk_do (hr.mono (by decide)) q0m (pv 0) (q00 (pv 2) (q00 (q0j q0i (pv 1) q01 (fun _ _ => rfl)) (q00 (q0j q0i (pv 1) q01 (fun _ _ => rfl)) q04))))))
   q0b)
   (q06 (q0a (q31 DDesk_undo (hr.mono (by decide)) q0m (pv 0) (q00 (pv 2) (q00 (q0j q0i (pv 1) q01 (fun _ _ => rfl)) (q00 (q0j q0i (pv 1) q01 (fun _ _ => rfl)) q04)))))))), ?_⟩
  refine ⟨_, rfl, q, _, _, _, rfl, rfl, SqT.of hq, q07 (j := 1) rfl, _, rfl, q, _, _, _, rfl, rfl, SqT.of hq, q07 (j := 2) rfl, (by show 2 ≤ sizeLine; decide), fun b hb => ?_⟩
  have hq1 : (upd H b (.tup [V.str r.w, V.int r.st])) q = some (.tup r.vs) := by rw [q08 (q09 hq hb)]; exact hq
  have kp : Kp [s, d] H (upd H b (.tup [V.str r.w, V.int r.st])) := Kp.new hb
  have D1 := D.same (Kp.new (o := .tup [V.str r.w, V.int r.st]) hb)
  have hp1 : (upd H b (.tup [V.str r.w, V.int r.st])) p = some (.ins C dx (flds s d)) := by rw [q08 (q09 hp hb)]; exact hp
  refine ⟨_, rfl, q, _, _, _, rfl, rfl, SqT.of hq1, q07 (j := 0) rfl, rfl, _, rfl, ?_⟩
  refine ite2 (fun h => ?_) (fun h => ?_)
  ·have hw : r.word = "do" := by have := of_decide_eq_true h; injection this
   refine ⟨_, rfl, p, dx, _, rfl, hp1, nm _ (by decide +kernel) (by decide +kernel), _, rfl, _, rfl, q, _, _, _, rfl, rfl, SqT.of hq1, q07 (j := 3) rfl, _, rfl, q, _, _, _, rfl, rfl, SqT.of hq1, q07 (j := 4) rfl,
    p, b, s, d, Tt, F, kk r.w r.st, r.x, r.n, rfl, q05, D1, ok, fun H' D' kp' => ?_⟩
   have em : q20 Tt F r = doM Tt F (kk r.w r.st) r.x r.n := by unfold q20; rw [if_pos hw]
   rw [em] at k
   exact k H' D' (kp.trans kp')
  ·have hw : ¬ r.word = "do" := fun z => h (decide_eq_true (by rw [z]))
   refine ⟨_, rfl, p, dx, _, rfl, hp1, nm _ (by decide +kernel) (by decide +kernel), _, rfl, _, rfl, q, _, _, _, rfl, rfl, SqT.of hq1, q07 (j := 3) rfl, _, rfl, q, _, _, _, rfl, rfl, SqT.of hq1, q07 (j := 4) rfl,
    p, b, s, d, Tt, F, kk r.w r.st, r.x, r.n, rfl, q05, D1, ok, fun H' D' kp' => ?_⟩
   have em : q20 Tt F r = q2y Tt F (kk r.w r.st) r.x r.n := by unfold q20; rw [if_neg hw]
   rw [em] at k
   exact k H' D' (kp.trans kp')
end
end K08
end
section
namespace K08
open PySem L2
structure Stp where
 d : Int
 x : Str
 n : Int
def Stp.vs (s : Stp) : List V := [.int s.d, .str s.x, .int s.n]
structure Rn where
 desks : List (Tb × Fb)
 bound : Int
 up : Bool
 works : List (Str × List Stp)
 trail : Str → List En
 tries : Tb
 lost : List (Int × Rq)
def wkF {α : Type} (ws : List (Str × α)) (x : Str) : Option α := (ws.find? fun w => decide (w.1 = x)).map (·.2)
def Rn.wk (R : Rn) (x : Str) : Option (List Stp) := wkF R.works x
def wkT (ws : List (Str × List Stp)) (f : Str → Addr) : List (Key × V) := ws.map fun w => ((Sum.inr w.1 : Key), V.ref (f w.1))
theorem q2z (ws : List (Str × List Stp)) (f : Str → Addr) (x : Str) : valV (wkT ws f) (Sum.inr x : Key) = (wkF ws x).map fun _ => V.ref (f x) := by
 induction ws with
 | nil => rfl
 | cons w ws ih =>
  unfold valV wkT wkF at ih ⊢
  simp only [List.map_cons, List.find?_cons]
  by_cases h : w.1 = x
  ·subst h
   simp
  ·have h' : ¬ ((Sum.inr w.1 : Key) = Sum.inr x) := fun z => h (by injection z)
   rw [decide_eq_false h, decide_eq_false h']
   exact ih
theorem q2k {α : Type} {ws : List (Str × α)} {x : Str} {ss : α} (h : wkF ws x = some ss) : (x, ss) ∈ ws := by
 unfold wkF at h
 cases e : ws.find? fun w => decide (w.1 = x) with
 | none => rw [e] at h; cases h
 | some w =>
  rw [e] at h
  have h1 := List.find?_some e
  have h2 := List.mem_of_find?_eq_some e
  obtain ⟨y, s⟩ := w
  obtain rfl : s = ss := Option.some.inj h
  obtain rfl : y = x := of_decide_eq_true h1
  exact h2
theorem q3h {α : Type} {ws : List (Str × α)} {x : Str} (h : wkF ws x = none) : ∀ w ∈ ws, w.1 ≠ x := fun w hw e => by
 unfold wkF at h
 rw [Option.map_eq_none_iff, List.find?_eq_none] at h
 exact h w hw (decide_eq_true e)
inductive Tg where
 | no | run | dl | desk | works | trails | tries | lost
 | stock (i : Nat) | fates (i : Nat) | wk (x : Str) | trail (x : Str)
 deriving DecidableEq
structure Stps (H : Hp) (as : List Addr) (ss : List Stp) : Prop where
 len : as.length = ss.length
 at_ : ∀ (i : Nat) a s, as[i]? = some a → ss[i]? = some s → H a = some (.tup s.vs)
def LoAt (H : Hp) (a : Addr) (q : Int × Rq) : Prop := ∃ b, H a = some (.tup [.int q.1, .ref b]) ∧ H b = some (.tup q.2.vs)
structure Losts (H : Hp) (as : List Addr) (qs : List (Int × Rq)) : Prop where
 len : as.length = qs.length
 at_ : ∀ (i : Nat) a q, as[i]? = some a → qs[i]? = some q → LoAt H a q
def TK (H H' : Hp) : Prop := ∀ b xs, H b = some (.tup xs) → H' b = some (.tup xs)
theorem TK.refl (H : Hp) : TK H H := fun _ _ h => h
theorem TK.trans {H H1 H2 : Hp} (a : TK H H1) (b : TK H1 H2) : TK H H2 := fun c xs h => b c xs (a c xs h)
theorem Stps.tk {H H' : Hp} {as : List Addr} {ss : List Stp} (h : Stps H as ss) (k : TK H H') : Stps H' as ss := ⟨h.len, fun i a s e1 e2 => k _ _ (h.at_ i a s e1 e2)⟩
theorem Losts.tk {H H' : Hp} {as : List Addr} {ss : List (Int × Rq)} (h : Losts H as ss) (k : TK H H') : Losts H' as ss := ⟨h.len, fun i a s e1 e2 => let ⟨b, h1, h2⟩ := h.at_ i a s e1 e2; ⟨b, k _ _ h1, k _ _ h2⟩⟩
theorem Ents.tk {H H' : Hp} {as : List Addr} {t : List En} (h : Ents H as t) (k : TK H H') : Ents H' as t := ⟨h.len, fun i a e e1 e2 => k _ _ (h.at_ i a e e1 e2)⟩
theorem Kp.tk {H H' : Hp} {xs : List Addr} (k : Kp xs H H') (h : ∀ a ∈ xs, ∀ ys, H a ≠ some (.tup ys)) : TK H H' := fun b ys e => k.get e fun z => h b z ys e
theorem Losts.snoc {H : Hp} {as : List Addr} {qs : List (Int × Rq)} {a : Addr} {q : Int × Rq} (h : Losts H as qs) (hq : LoAt H a q) : Losts H (as ++ [a]) (qs ++ [q]) := by
 refine ⟨by simp [h.len], fun i b q' ea er => ?_⟩
 by_cases hi : i < as.length
 ·rw [List.getElem?_append_left hi] at ea
  rw [List.getElem?_append_left (by rw [← h.len]; exact hi)] at er
  exact h.at_ i b q' ea er
 ·have e1 : i = as.length := by
   have := (List.getElem?_eq_some_iff.mp ea).1
   simp at this
   omega
  subst e1
  rw [List.getElem?_append_right (Nat.le_refl _)] at ea
  rw [h.len, List.getElem?_append_right (Nat.le_refl _)] at er
  simp at ea er
  subst ea er
  exact hq
theorem Stps.get {H : Hp} {as : List Addr} {ss : List Stp} (h : Stps H as ss) {i : Nat} {s : Stp} (e : ss[i]? = some s) : ∃ a, as[i]? = some a ∧ H a = some (.tup s.vs) := by
 have hi : i < as.length := by rw [h.len]; exact (List.getElem?_eq_some_iff.mp e).1
 exact ⟨as[i], List.getElem?_eq_getElem hi, h.at_ i _ s (List.getElem?_eq_getElem hi) e⟩
def q29 (dl : Addr) (b : Int) (u : Bool) (wd td tr lo : Addr) : List (Str × V) :=
 putF "lost" (.ref lo) (putF "tries" (.ref tr) (putF "trails" (.ref td) (putF "works" (.ref wd) (putF "up" (.bl u) (putF "bound" (.int b) (putF "desks" (.ref dl) []))))))
section
variable (dl : Addr) (b : Int) (u : Bool) (wd td tr lo : Addr)
theorem fR : q29 dl b u wd td tr lo = ([("desks", .ref dl), ("bound", .int b), ("up", .bl u), ("works", .ref wd), ("trails", .ref td), ("tries", .ref tr), ("lost", .ref lo)] : List (Str × V)) := by
 unfold q29; with_unfolding_all rfl
theorem q4p : (q29 dl b u wd td tr lo).lookup ("desks" : Str) = some (.ref dl) := by rw [fR]; rfl
theorem qdk : (q29 dl b u wd td tr lo).lookup ("bound" : Str) = some (.int b) := by rw [fR]; rfl
theorem qhn : (q29 dl b u wd td tr lo).lookup ("up" : Str) = some (.bl u) := by rw [fR]; rfl
theorem q3s : (q29 dl b u wd td tr lo).lookup ("works" : Str) = some (.ref wd) := by rw [fR]; rfl
theorem q3z : (q29 dl b u wd td tr lo).lookup ("trails" : Str) = some (.ref td) := by rw [fR]; rfl
theorem q4r : (q29 dl b u wd td tr lo).lookup ("tries" : Str) = some (.ref tr) := by rw [fR]; rfl
theorem q6d : (q29 dl b u wd td tr lo).lookup ("lost" : Str) = some (.ref lo) := by rw [fR]; rfl
theorem q9n (u' : Bool) : putF "up" (.bl u') (q29 dl b u wd td tr lo) = q29 dl b u' wd td tr lo := by rw [fR, fR]; rfl
theorem q8n (tr' : Addr) : putF "tries" (.ref tr') (q29 dl b u wd td tr lo) = q29 dl b u wd td tr' lo := by rw [fR, fR]; rfl
end
structure RnP (C Cd : Addr) (ex : Tg → Bool) (H0 H : Hp) (r : Addr) (R : Rn) (tg : Addr → Tg) (dl wd td tr lo : Addr) (ps : List Addr) (wa ta : Str → Addr) : Prop where
 kp : Kp [] H0 H
 fr : ∀ b o, H0 b = some o → tg b = .no
 tr_ : tg r = .run
 ob : ex .run = false → ∃ dx, H r = some (.ins C dx (q29 dl R.bound R.up wd td tr lo))
 tdl : tg dl = .dl
 hdl : ex .dl = false → H dl = some (.lst (ps.map V.ref))
 len : ps.length = R.desks.length
 dk : ∀ (i : Nat) p T F, ps[i]? = some p → R.desks[i]? = some (T, F) → ex (.stock i) = false → ex (.fates i) = false → ex .desk = false → tg p = .desk ∧ ∃ s d, DeskAt Cd H p s d T F ∧ tg s = .stock i ∧ tg d = .fates i
 twd : tg wd = .works
 hwd : ex .works = false → H wd = some (.dK (wkT R.works wa))
 wk : ∀ x ss, (x, ss) ∈ R.works → ex (.wk x) = false → tg (wa x) = .wk x ∧ ∃ as, H (wa x) = some (.lst (as.map V.ref)) ∧ Stps H as ss
 ttd : tg td = .trails
 htd : ex .trails = false → H td = some (.dK (wkT R.works ta))
 tl : ∀ x ss, (x, ss) ∈ R.works → ex (.trail x) = false → tg (ta x) = .trail x ∧ ∃ as, H (ta x) = some (.lst (as.map V.ref)) ∧ Ents H as (R.trail x)
 ttr : tg tr = .tries
 htr : ex .tries = false → H tr = some (.dK R.tries)
 tlo : tg lo = .lost
 hlo : ex .lost = false → ∃ as, H lo = some (.lst (as.map V.ref)) ∧ Losts H as R.lost
abbrev exN : Tg → Bool := fun _ => false
section
variable {C Cd r dl wd td tr lo : Addr} {ex : Tg → Bool} {H0 H H' : Hp} {R : Rn} {tg : Addr → Tg} {ps : List Addr} {wa ta : Str → Addr}
theorem RnP.step (I : RnP C Cd exN H0 H r R tg dl wd td tr lo ps wa ta) {xs : List Addr} (k : Kp xs H H') (hx : ∀ a ∈ xs, ex (tg a) = true ∧ tg a ≠ .no ∧ ∀ ys, H a ≠ some (.tup ys)) : RnP C Cd ex H0 H' r R tg dl wd td tr lo ps wa ta := by
 have ne : ∀ {b : Addr} {o : HO} {t : Tg}, tg b = t → ex t = false → H b = some o → H' b = some o := fun {b o t} e f h => k.get h fun z => by
  have := (hx b z).1
  rw [e, f] at this
  cases this
 have tk : TK H H' := Kp.tk k fun a ha => (hx a ha).2.2
 refine ⟨fun b o h _ => k.get (I.kp.get h nEm) fun z => (hx b z).2.1 (I.fr b o h), I.fr, I.tr_, fun f => ?_, I.tdl, fun f => ne I.tdl f (I.hdl rfl), I.len, fun i p T F e1 e2 f1 f2 f3 => ?_, I.twd, fun f => ne I.twd f (I.hwd rfl), fun x ss hm f => ?_, I.ttd, fun f => ne I.ttd f (I.htd rfl), fun x ss hm f => ?_, I.ttr,
  fun f => ne I.ttr f (I.htr rfl), I.tlo, fun f => ?_⟩
 ·obtain ⟨dx, h⟩ := I.ob rfl
  exact ⟨dx, ne I.tr_ f h⟩
 ·obtain ⟨tp, s, d, D, ts, td'⟩ := I.dk i p T F e1 e2 rfl rfl rfl
  obtain ⟨dx, h⟩ := D.ob
  exact ⟨tp, s, d, ⟨⟨dx, ne tp f3 h⟩, ne ts f1 D.st, ne td' f2 D.ft⟩, ts, td'⟩
 ·obtain ⟨t, as, h, S⟩ := I.wk x ss hm rfl
  exact ⟨t, as, ne t f h, S.tk tk⟩
 ·obtain ⟨t, as, h, S⟩ := I.tl x ss hm rfl
  exact ⟨t, as, ne t f h, S.tk tk⟩
 ·obtain ⟨as, h, S⟩ := I.hlo rfl
  exact ⟨as, ne I.tlo f h, S.tk tk⟩
end
structure RnOk (R : Rn) (n : Nat) : Prop where
 ok : ∀ T F, (T, F) ∈ R.desks → Ok T F n
 nod : (R.works.map (·.1)).Nodup
 sw : R.works.length ≤ n
 sl : R.lost.length ≤ n
 st : ∀ x, (R.trail x).length ≤ n
 ss : ∀ x ss, (x, ss) ∈ R.works → ss.length ≤ 1000
 it : q1q R.tries
 lt : R.tries.length ≤ n
 sd : ∀ x ss, (x, ss) ∈ R.works → ∀ s ∈ ss, 0 ≤ s.d ∧ s.d < R.desks.length
 ld : ∀ q ∈ R.lost, 0 ≤ q.1 ∧ q.1 < R.desks.length
 en : ∀ x ss, (x, ss) ∈ R.works → ∀ e ∈ R.trail x, 0 ≤ e.2 ∧ e.2 < ss.length
structure RnAt (C Cd : Addr) (H0 H : Hp) (r : Addr) (R : Rn) (n : Nat) : Prop where
 ok : RnOk R n
 ex : ∃ (tg : Addr → Tg) (dl wd td tr lo : Addr) (ps : List Addr) (wa ta : Str → Addr), RnP C Cd exN H0 H r R tg dl wd td tr lo ps wa ta
def setD (R : Rn) (i : Nat) (p : Tb × Fb) : Rn := { R with desks := R.desks.set i p }
def q0n (R : Rn) (d : Int) (q : Rq) : Str × Rn := match R.desks[d.toNat]? with
 | some (T, F) => ((q20 T F q).1, setD R d.toNat (q20 T F q).2)
 | none => ("", R)
def q2c (R : Rn) (d : Int) (q : Rq) (luck : Str) : Option Str × Rn :=
 if luck = "lost" then (none, { R with lost := R.lost ++ [(d, q)] }) else (if luck = "ok" then some (q0n R d q).1 else none, (q0n R d q).2)
def q0v (R : Rn) (x : Str) (undo : Bool) : Option Str × Rn :=
 if undo = true then (none, R) else (if R.bound ≤ getI R.tries x + 1 then some "unsure" else none, { R with tries := putK R.tries (Sum.inr x : Key) (.int (getI R.tries x + 1)) })
def q1v (R : Rn) (x : Str) (e : En) : Rn := { R with tries := putK R.tries (Sum.inr x : Key) (.int 0), trail := fun y => if y = x then R.trail x ++ [e] else R.trail y }
def reqM (x : Str) (s : Stp) (word : Str) (i : Int) : Rq := ⟨word, x, i, s.x, s.n⟩
def q0x (R : Rn) (x : Str) (s : Stp) (undo : Bool) (i : Int) (luck : Str) : Option En × Rn :=
 match q2c R s.d (reqM x s (if undo = true then "undo" else "do") i) luck with
 | (some w, R1) => (some (w, i), q1v R1 x (w, i))
 | (none, R1) => match q0v R1 x undo with
  | (some w, R2) => (some (w, i), q1v R2 x (w, i))
  | (none, R2) => (none, R2)
inductive An where
 | non | bl (b : Bool) | str (s : Str) | en (e : En)
 deriving DecidableEq
inductive Deed where
 | start (x : Str) (ss : List Stp) | go (x luck : Str) | late (i : Int) | fill (d : Int) (x : Str) (n : Int) | stop | wake
def optA : Option En → An
 | some e => .en e
 | none => .non
def goM (R : Rn) (x luck : Str) : An × Rn := if R.up = false then (.str "stopped", R) else match R.wk x with
 | none => (.str "no work", R)
 | some ss => match nxOf ss.length (R.trail x) with
  | .dO i => match ss[i.toNat]? with
   | some s => (optA (q0x R x s false i luck).1, (q0x R x s false i luck).2)
   | none => (.non, R)
  | .un i => match ss[i.toNat]? with
   | some s => (optA (q0x R x s true i luck).1, (q0x R x s true i luck).2)
   | none => (.non, R)
  | _ => (.str "ended", R)
def inD (R : Rn) (d : Int) : Bool := decide (0 ≤ d) && decide (d < R.desks.length)
def q2b (R : Rn) (x : Str) (ss : List Stp) : An × Rn := if (ss.all fun s => inD R s.d) = true then (match R.wk x with
  | some _ => (.bl false, R)
  | none => (.bl true, { R with works := R.works ++ [(x, ss)], trail := fun y => if y = x then [] else R.trail y }))
 else (.str "no desk", R)
def q2t (R : Rn) (d : Int) (x : Str) (n : Int) : An × Rn := if inD R d = true then (match R.desks[d.toNat]? with
  | some (T, F) => (.bl true, setD R d.toNat (putK T (Sum.inr x : Key) (.int (getI T x + n)), F))
  | none => (.bl true, R))
 else (.str "no desk", R)
def q2w (R : Rn) (i : Int) : An × Rn := if i < 0 then (.non, R) else match R.lost[i.toNat]? with
 | some (d, q) => (.str (q0n R d q).1, (q0n R d q).2)
 | none => (.non, R)
def q1c (R : Rn) : Deed → An × Rn
 | .start x ss => q2b R x ss
 | .go x luck => goM R x luck
 | .late i => q2w R i
 | .fill d x n => q2t R d x n
 | .stop => if R.up = true then (.bl true, { R with up := false, tries := [] }) else (.bl false, R)
 | .wake => if R.up = true then (.bl false, R) else (.bl true, { R with up := true })
def runD (R : Rn) (ds : List Deed) : List An × Rn := ds.foldl (fun acc d => (acc.1 ++ [(q1c acc.2 d).1], (q1c acc.2 d).2)) ([], R)
def newR (stocks : List Tb) (bound : Int) : Rn := ⟨stocks.map fun T => (T, []), bound, true, [], fun _ => [], [], []⟩
end K08
end
section
namespace K08
open PySem L2
theorem RnOk.mono {R : Rn} {n m : Nat} (h : RnOk R n) (l : n ≤ m) : RnOk R m :=
 ⟨fun T F z => (h.ok T F z).mono l, h.nod, Nat.le_trans h.sw l, Nat.le_trans h.sl l, fun x => Nat.le_trans (h.st x) l, h.ss, h.it, Nat.le_trans h.lt l, h.sd, h.ld, h.en⟩
theorem qh3 {α : Type} {l : List α} {i : Nat} {a x : α} (h : x ∈ l.set i a) : x = a ∨ x ∈ l := by
 rcases List.mem_or_eq_of_mem_set h with z | z
 ·exact .inr z
 ·exact .inl z
theorem RnOk.setD {R : Rn} {n : Nat} {i : Nat} {T : Tb} {F : Fb} (h : RnOk R n) (o : Ok T F (n + 1)) : RnOk (setD R i (T, F)) (n + 1) := by
 have h' := h.mono (Nat.le_succ n)
 have el : (K08.setD R i (T, F)).desks.length = R.desks.length := by unfold K08.setD; exact List.length_set
 refine ⟨fun T' F' z => ?_, h'.nod, h'.sw, h'.sl, h'.st, h'.ss, h'.it, h'.lt, fun x ss z s hs => ?_, fun q hq => ?_, h'.en⟩
 ·rcases qh3 z with e | e
  ·cases e; exact o
  ·exact h'.ok T' F' e
 ·rw [el]; exact h'.sd x ss z s hs
 ·rw [el]; exact h'.ld q hq
theorem RnOk.arrive {R : Rn} {n : Nat} {d : Int} {q : Rq} (h : RnOk R n) : RnOk (q0n R d q).2 (n + 1) := by
 unfold q0n
 split
 ·rename_i T F e
  exact h.setD (qhc (h.ok T F (List.mem_of_getElem? e)) q)
 ·exact h.mono (Nat.le_succ n)
theorem RnOk.setTries {R : Rn} {n : Nat} {x : Str} {i : Int} (h : RnOk R n) : RnOk { R with tries := putK R.tries (Sum.inr x : Key) (.int i) } (n + 1) := by
 have h' := h.mono (Nat.le_succ n)
 refine ⟨h'.ok, h'.nod, h'.sw, h'.sl, h'.st, h'.ss, h.it.put _ _, ?_, h'.sd, h'.ld, h'.en⟩
 have := q0t R.tries (Sum.inr x : Key) (V.int i)
 have := h.lt
 dsimp only
 omega
theorem RnOk.addLost {R : Rn} {n : Nat} {d : Int} {q : Rq} (h : RnOk R n) (h0 : 0 ≤ d) (h1 : d < R.desks.length) : RnOk { R with lost := R.lost ++ [(d, q)] } (n + 1) := by
 have h' := h.mono (Nat.le_succ n)
 refine ⟨h'.ok, h'.nod, h'.sw, by have := h.sl; simp; omega, h'.st, h'.ss, h'.it, h'.lt, h'.sd, fun z hz => ?_, h'.en⟩
 rcases List.mem_append.mp hz with e | e
 ·exact h'.ld z e
 ·rw [List.mem_singleton.mp e]; exact ⟨h0, h1⟩
theorem RnOk.addTrail {R : Rn} {n : Nat} {x : Str} {e : En} (h : RnOk R n) (he : ∀ ss, (x, ss) ∈ R.works → 0 ≤ e.2 ∧ e.2 < ss.length) : RnOk { R with trail := fun y => if y = x then R.trail x ++ [e] else R.trail y } (n + 1) := by
 have h' := h.mono (Nat.le_succ n)
 refine ⟨h'.ok, h'.nod, h'.sw, h'.sl, fun y => ?_, h'.ss, h'.it, h'.lt, h'.sd, h'.ld, fun y ss hm z hz => ?_⟩
 ·dsimp only
  split
  ·have := h.st x
   simp; omega
  ·exact h'.st y
 ·dsimp only at hz
  split at hz
  ·rename_i ey
   subst ey
   rcases List.mem_append.mp hz with q | q
   ·exact h.en _ ss hm z q
   ·rw [List.mem_singleton.mp q]; exact he ss hm
  ·exact h.en y ss hm z hz
theorem RnOk.written {R : Rn} {n : Nat} {x : Str} {e : En} (h : RnOk R n) (he : ∀ ss, (x, ss) ∈ R.works → 0 ≤ e.2 ∧ e.2 < ss.length) : RnOk (q1v R x e) (n + 2) := by
 have := (h.setTries (x := x) (i := 0)).addTrail (x := x) (e := e) he
 exact this
theorem q1t (R : Rn) (d : Int) (q : Rq) : (q0n R d q).2.works = R.works ∧ (q0n R d q).2.trail = R.trail ∧ (q0n R d q).2.desks.length = R.desks.length ∧ (q0n R d q).2.tries = R.tries ∧ (q0n R d q).2.bound = R.bound ∧ (q0n R d q).2.up = R.up ∧ (q0n R d q).2.lost = R.lost := by
 unfold q0n
 split
 ·exact ⟨rfl, rfl, List.length_set, rfl, rfl, rfl, rfl⟩
 ·exact ⟨rfl, rfl, rfl, rfl, rfl, rfl, rfl⟩
theorem RnOk.start {R : Rn} {n : Nat} {x : Str} {ss : List Stp} (h : RnOk R n) (hn : R.wk x = none) (hs : ss.length ≤ 1000) (hd : ∀ s ∈ ss, 0 ≤ s.d ∧ s.d < R.desks.length) :
  RnOk { R with works := R.works ++ [(x, ss)], trail := fun y => if y = x then [] else R.trail y } (n + 1) := by
 have h' := h.mono (Nat.le_succ n)
 have nx : ∀ y ss', (y, ss') ∈ R.works → y ≠ x := fun y ss' hm => q3h hn (y, ss') hm
 have cs : ∀ {y ss'}, (y, ss') ∈ R.works ++ [(x, ss)] → (y, ss') ∈ R.works ∨ (y = x ∧ ss' = ss) := fun {y ss'} hm => by
  rcases List.mem_append.mp hm with q | q
  ·exact .inl q
  ·have := List.mem_singleton.mp q
   cases this
   exact .inr ⟨rfl, rfl⟩
 refine ⟨h'.ok, ?_, by have := h.sw; simp; omega, h'.sl, fun y => ?_, fun y ss' hm => ?_, h'.it, h'.lt, fun y ss' hm s hs => ?_, h'.ld, fun y ss' hm e he => ?_⟩
 ·show ((R.works ++ [(x, ss)]).map (·.1)).Nodup
  rw [List.map_append, List.nodup_append]
  refine ⟨h.nod, by simp, fun a ha b hb e => ?_⟩
  obtain ⟨⟨y, ss'⟩, hm, rfl⟩ := List.mem_map.mp ha
  simp at hb
  exact nx y ss' hm (e.trans hb)
 ·dsimp only
  split
  ·exact Nat.zero_le _
  ·exact h'.st y
 ·rcases cs hm with q | ⟨_, q⟩
  ·exact h'.ss y ss' q
  ·rw [q]; exact hs
 ·rcases cs hm with q | ⟨_, q⟩
  ·exact h'.sd y ss' q s hs
  ·rw [q] at hs; exact hd s hs
 ·dsimp only at he
  rcases cs hm with q | ⟨q, _⟩
  ·rw [if_neg (nx y ss' q)] at he
   exact h'.en y ss' q e he
  ·rw [if_pos q] at he
   cases he
theorem RnOk.calm {R : Rn} {n : Nat} (h : RnOk R n) (u : Bool) (T : Tb) (hT : q1q T) (hl : T.length ≤ n) : RnOk { R with up := u, tries := T } n :=
 ⟨h.ok, h.nod, h.sw, h.sl, h.st, h.ss, hT, hl, h.sd, h.ld, h.en⟩
theorem RnOk.next {R : Rn} {n : Nat} {x : Str} {ss : List Stp} (h : RnOk R n) (hm : (x, ss) ∈ R.works) {i : Int} (e : nxOf ss.length (R.trail x) = .dO i ∨ nxOf ss.length (R.trail x) = .un i) : 0 ≤ i ∧ i < ss.length := by
 unfold nxOf at e
 cases q : (R.trail x).getLast? with
 | none =>
  rw [q] at e
  dsimp only at e
  unfold doD at e
  split at e
  ·rcases e with e | e
   ·cases e; omega
   ·cases e
  ·rcases e with e | e <;> cases e
 | some z =>
  rw [q] at e
  dsimp only at e
  have hz := h.en x ss hm z (List.mem_of_getLast? q)
  unfold nb doD unD at e
  split at e
  ·split at e
   ·rcases e with e | e
    ·cases e; omega
    ·cases e
   ·rcases e with e | e <;> cases e
  ·split at e
   ·split at e
    ·rcases e with e | e
     ·cases e
     ·cases e; omega
    ·rcases e with e | e <;> cases e
   ·split at e
    ·rcases e with e | e
     ·cases e
     ·cases e; omega
    ·rcases e with e | e <;> cases e
section
variable {C Cd r : Addr} {H0 H0' H H' : Hp} {R : Rn} {n : Nat}
theorem RnAt.kp (I : RnAt C Cd H0 H r R n) : Kp [] H0 H := let ⟨_, _, _, _, _, _, _, _, _, P⟩ := I.ex; P.kp
theorem RnAt.mono {m : Nat} (I : RnAt C Cd H0 H r R n) (h : n ≤ m) : RnAt C Cd H0 H r R m := ⟨I.ok.mono h, I.ex⟩
theorem RnP.retag {ex : Tg → Bool} {tg tg' : Addr → Tg} {dl wd td tr lo : Addr} {ps : List Addr} {wa ta : Str → Addr} (P : RnP C Cd exN H0 H r R tg dl wd td tr lo ps wa ta) (k : Kp [] H H') (h : ∀ b, H b ≠ none → tg' b = tg b) :
  RnP C Cd exN H0 H' r R tg' dl wd td tr lo ps wa ta := by
 have nn : ∀ {b : Addr} {o : HO}, H b = some o → tg' b = tg b := fun {b o} e => h b (by rw [e]; simp)
 have tk : TK H H' := fun b xs e => k.get e nEm
 obtain ⟨dx, hob⟩ := P.ob rfl
 obtain ⟨al, hl, L⟩ := P.hlo rfl
 refine ⟨P.kp.trans k, fun b o e => (nn (P.kp.get e nEm)).trans (P.fr b o e), (nn hob).trans P.tr_, fun _ => ⟨dx, k.get hob nEm⟩, (nn (P.hdl rfl)).trans P.tdl, fun _ => k.get (P.hdl rfl) nEm, P.len, fun i p T F e1 e2 _ _ _ => ?_,
  (nn (P.hwd rfl)).trans P.twd, fun _ => k.get (P.hwd rfl) nEm, fun x ss hm _ => ?_, (nn (P.htd rfl)).trans P.ttd, fun _ => k.get (P.htd rfl) nEm, fun x ss hm _ => ?_, (nn (P.htr rfl)).trans P.ttr, fun _ => k.get (P.htr rfl) nEm, (nn hl).trans P.tlo, fun _ => ⟨al, k.get hl nEm, L.tk tk⟩⟩
 ·obtain ⟨tp, s, d, D, ts, td'⟩ := P.dk i p T F e1 e2 rfl rfl rfl
  obtain ⟨dy, hp⟩ := D.ob
  exact ⟨(nn hp).trans tp, s, d, D.same k, (nn D.st).trans ts, (nn D.ft).trans td'⟩
 ·obtain ⟨t, as, h, S⟩ := P.wk x ss hm rfl
  exact ⟨(nn h).trans t, as, k.get h nEm, S.tk tk⟩
 ·obtain ⟨t, as, h, S⟩ := P.tl x ss hm rfl
  exact ⟨(nn h).trans t, as, k.get h nEm, S.tk tk⟩
theorem RnAt.same (I : RnAt C Cd H0 H r R n) (k : Kp [] H H') : RnAt C Cd H0 H' r R n := by
 obtain ⟨tg, dl, wd, td, tr, lo, ps, wa, ta, P⟩ := I.ex
 exact ⟨I.ok, tg, dl, wd, td, tr, lo, ps, wa, ta, P.retag (ex := exN) k fun _ _ => rfl⟩
theorem RnAt.new {a : Addr} {o : HO} (I : RnAt C Cd H0 H r R n) (ha : H a = none) : RnAt C Cd (upd H0 a o) (upd H a o) r R n := by
 obtain ⟨tg, dl, wd, td, tr, lo, ps, wa, ta, P⟩ := I.ex
 have Q := P.retag (ex := exN) (tg' := fun b => if b = a then .no else tg b) (Kp.new (o := o) ha) fun b hb => if_neg fun z => hb (by rw [z]; exact ha)
 refine ⟨I.ok, _, dl, wd, td, tr, lo, ps, wa, ta, ⟨fun b u e _ => ?_, fun b u e => ?_, Q.tr_, Q.ob, Q.tdl, Q.hdl, Q.len, Q.dk, Q.twd, Q.hwd, Q.wk, Q.ttd, Q.htd, Q.tl, Q.ttr, Q.htr, Q.tlo, Q.hlo⟩⟩
 ·by_cases z : b = a
  ·subst z; rw [q05] at e ⊢; exact e
  ·rw [q08 z] at e ⊢; exact P.kp.get e nEm
 ·by_cases z : b = a
  ·exact if_pos z
  ·rw [q08 z] at e
   exact Q.fr b u e
theorem RnAt.frame {a : Addr} {o o' : HO} (I : RnAt C Cd H0 H r R n) (ha : H0 a = some o) (nt : ∀ ys, o ≠ .tup ys) : RnAt C Cd (upd H0 a o') (upd H a o') r R n := by
 obtain ⟨tg, dl, wd, td, tr, lo, ps, wa, ta, P⟩ := I.ex
 have ta' : tg a = .no := P.fr a o ha
 have haH : H a = some o := P.kp.get ha nEm
 have ne : ∀ {b : Addr} {t : Tg}, tg b = t → t ≠ .no → b ≠ a := fun {b t} e f z => f (by rw [← e, z, ta'])
 have get : ∀ {b : Addr} {u : HO} {t : Tg}, tg b = t → t ≠ .no → H b = some u → (upd H a o') b = some u := fun e f h => by rw [q08 (ne e f)]; exact h
 have tk : TK H (upd H a o') := fun b xs e => by
  rw [q08 fun z => nt xs (by rw [z, haH] at e; exact Option.some.inj e)]
  exact e
 obtain ⟨dx, hob⟩ := P.ob rfl
 obtain ⟨al, hl, L⟩ := P.hlo rfl
 refine ⟨I.ok, tg, dl, wd, td, tr, lo, ps, wa, ta, ⟨fun b u e _ => ?_, fun b u e => ?_, P.tr_, fun _ => ⟨dx, get P.tr_ (by simp) hob⟩, P.tdl, fun _ => get P.tdl (by simp) (P.hdl rfl), P.len, fun i p T F e1 e2 _ _ _ => ?_,
  P.twd, fun _ => get P.twd (by simp) (P.hwd rfl), fun x ss hm _ => ?_, P.ttd, fun _ => get P.ttd (by simp) (P.htd rfl), fun x ss hm _ => ?_, P.ttr, fun _ => get P.ttr (by simp) (P.htr rfl), P.tlo, fun _ => ⟨al, get P.tlo (by simp) hl, L.tk tk⟩⟩⟩
 ·by_cases z : b = a
  ·subst z; rw [q05] at e ⊢; exact e
  ·rw [q08 z] at e ⊢; exact P.kp.get e nEm
 ·by_cases z : b = a
  ·rw [z]; exact ta'
  ·rw [q08 z] at e
   exact P.fr b u e
 ·obtain ⟨tp, s, d, D, ts, td'⟩ := P.dk i p T F e1 e2 rfl rfl rfl
  obtain ⟨dy, hp⟩ := D.ob
  exact ⟨tp, s, d, ⟨⟨dy, get tp (by simp) hp⟩, get ts (by simp) D.st, get td' (by simp) D.ft⟩, ts, td'⟩
 ·obtain ⟨t, as, h, S⟩ := P.wk x ss hm rfl
  exact ⟨t, as, get t (by simp) h, S.tk tk⟩
 ·obtain ⟨t, as, h, S⟩ := P.tl x ss hm rfl
  exact ⟨t, as, get t (by simp) h, S.tk tk⟩
end
end K08
end
section
namespace K08
open PySem L2
structure TxtR (K : PySem.W.Frag) (mg : Str → Option Value) (C : Addr) : Prop where
 cl : Cls K C
 nDesks : q2h K C "desks"
 nBound : q2h K C "bound"
 nUp : q2h K C "up"
 nWorks : q2h K C "works"
 nTrails : q2h K C "trails"
 nTries : q2h K C "tries"
 nLost : q2h K C "lost"
def exD (i : Nat) : Tg → Bool
 | .stock j => j == i
 | .fates j => j == i
 | _ => false
def qge : Tg → Bool
 | .tries => true
 | _ => false
def qf4 : Tg → Bool
 | .lost => true
 | _ => false
def qia : Tg → Bool
 | .run => true
 | _ => false
def q6l (x : Str) : Tg → Bool
 | .trail y => decide (y = x)
 | _ => false
section
variable {C Cd r dl wd td tr lo : Addr} {H0 H H' : Hp} {R : Rn} {tg : Addr → Tg} {ps : List Addr} {wa ta : Str → Addr} {n : Nat}
theorem RnP.deskW {i : Nat} {p s d : Addr} {T T' : Tb} {F F' : Fb} (P : RnP C Cd exN H0 H r R tg dl wd td tr lo ps wa ta) (e1 : ps[i]? = some p) (tp : tg p = .desk) (D : DeskAt Cd H p s d T F) (ts : tg s = .stock i) (td' : tg d = .fates i)
  (D' : DeskAt Cd H' p s d T' F') (k : Kp [s, d] H H') : RnP C Cd exN H0 H' r (setD R i (T', F')) tg dl wd td tr lo ps wa ta := by
 have Q := P.step (ex := exD i) k (by
  intro a ha
  simp at ha
  rcases ha with z | z
  ·rw [z, ts]; exact ⟨by simp [exD], by simp, fun ys e => by rw [D.st] at e; cases e⟩
  ·rw [z, td']; exact ⟨by simp [exD], by simp, fun ys e => by rw [D.ft] at e; cases e⟩)
 refine ⟨Q.kp, Q.fr, Q.tr_, fun _ => Q.ob rfl, Q.tdl, fun _ => Q.hdl rfl, by rw [Q.len]; exact List.length_set.symm, fun j q T2 F2 e3 e4 _ _ _ => ?_, Q.twd, fun _ => Q.hwd rfl, fun x ss hm _ => Q.wk x ss hm rfl, Q.ttd, fun _ => Q.htd rfl, fun x ss hm _ => Q.tl x ss hm rfl, Q.ttr, fun _ => Q.htr rfl, Q.tlo, fun _ => Q.hlo rfl⟩
 by_cases ej : j = i
 ·subst ej
  rw [e1] at e3
  obtain rfl : p = q := Option.some.inj e3
  have e4' : (R.desks.set j (T', F'))[j]? = some (T2, F2) := e4
  rw [List.getElem?_set_self' ] at e4'
  cases e5 : R.desks[j]? with
  | none => rw [e5] at e4'; cases e4'
  | some z =>
   rw [e5] at e4'
   cases e4'
   exact ⟨tp, s, d, D', ts, td'⟩
 ·have e4' : (R.desks.set i (T', F'))[j]? = some (T2, F2) := e4
  rw [List.getElem?_set_ne (Ne.symm ej)] at e4'
  exact Q.dk j q T2 F2 e3 e4' (by simp [exD, ej]) (by simp [exD, ej]) rfl
theorem RnP.triesW {T' : Tb} (P : RnP C Cd exN H0 H r R tg dl wd td tr lo ps wa ta) : RnP C Cd exN H0 (upd H tr (.dK T')) r { R with tries := T' } tg dl wd td tr lo ps wa ta := by
 have Q := P.step (ex := qge) (H' := upd H tr (.dK T')) (xs := [tr]) (Kp.put (by simp)) (by
  intro a ha
  simp at ha
  subst ha
  rw [P.ttr]
  exact ⟨rfl, by simp, fun ys e => by rw [P.htr rfl] at e; cases e⟩)
 exact ⟨Q.kp, Q.fr, Q.tr_, fun _ => Q.ob rfl, Q.tdl, fun _ => Q.hdl rfl, Q.len, fun i p T F e1 e2 _ _ _ => Q.dk i p T F e1 e2 rfl rfl rfl, Q.twd, fun _ => Q.hwd rfl, fun x ss hm _ => Q.wk x ss hm rfl, Q.ttd, fun _ => Q.htd rfl, fun x ss hm _ => Q.tl x ss hm rfl, Q.ttr, fun _ => q05, Q.tlo, fun _ => Q.hlo rfl⟩
theorem RnP.lostW {as : List Addr} {a : Addr} {q : Int × Rq} (P : RnP C Cd exN H0 H r R tg dl wd td tr lo ps wa ta) (hl : H lo = some (.lst (as.map V.ref))) (L : Losts H as R.lost) (hq : LoAt H a q) :
  RnP C Cd exN H0 (upd H lo (.lst (as.map V.ref ++ [.ref a]))) r { R with lost := R.lost ++ [q] } tg dl wd td tr lo ps wa ta ∧ TK H (upd H lo (.lst (as.map V.ref ++ [.ref a]))) := by
 have hx : ∀ b ∈ [lo], qf4 (tg b) = true ∧ tg b ≠ .no ∧ ∀ ys, H b ≠ some (.tup ys) := by
  intro b hb
  simp at hb
  subst hb
  rw [P.tlo]
  exact ⟨rfl, by simp, fun ys e => by rw [hl] at e; cases e⟩
 have k : Kp [lo] H (upd H lo (.lst (as.map V.ref ++ [.ref a]))) := Kp.put (by simp)
 have tk := Kp.tk k fun b hb => (hx b hb).2.2
 have Q := P.step (ex := qf4) k hx
 refine ⟨⟨Q.kp, Q.fr, Q.tr_, fun _ => Q.ob rfl, Q.tdl, fun _ => Q.hdl rfl, Q.len, fun i p T F e1 e2 _ _ _ => Q.dk i p T F e1 e2 rfl rfl rfl, Q.twd, fun _ => Q.hwd rfl, fun x ss hm _ => Q.wk x ss hm rfl, Q.ttd, fun _ => Q.htd rfl, fun x ss hm _ => Q.tl x ss hm rfl, Q.ttr, fun _ => Q.htr rfl, Q.tlo, fun _ => ⟨as ++ [a], ?_, ?_⟩⟩, tk⟩
 ·rw [q05, List.map_append]; rfl
 ·obtain ⟨b, h1, h2⟩ := hq
  exact (L.tk tk).snoc ⟨b, tk _ _ h1, tk _ _ h2⟩
theorem RnP.trailW {x : Str} {ss : List Stp} {as : List Addr} {a : Addr} {e : En} (P : RnP C Cd exN H0 H r R tg dl wd td tr lo ps wa ta) (hm : (x, ss) ∈ R.works) (hl : H (ta x) = some (.lst (as.map V.ref))) (L : Ents H as (R.trail x)) (ha : H a = some (.tup (enV e))) :
  RnP C Cd exN H0 (upd H (ta x) (.lst (as.map V.ref ++ [.ref a]))) r { R with trail := fun y => if y = x then R.trail x ++ [e] else R.trail y } tg dl wd td tr lo ps wa ta ∧ TK H (upd H (ta x) (.lst (as.map V.ref ++ [.ref a]))) := by
 have tx := (P.tl x ss hm rfl).1
 have hx : ∀ b ∈ [ta x], q6l x (tg b) = true ∧ tg b ≠ .no ∧ ∀ ys, H b ≠ some (.tup ys) := by
  intro b hb
  simp at hb
  subst hb
  rw [tx]
  exact ⟨by simp [q6l], by simp, fun ys e => by rw [hl] at e; cases e⟩
 have k : Kp [ta x] H (upd H (ta x) (.lst (as.map V.ref ++ [.ref a]))) := Kp.put (by simp)
 have tk := Kp.tk k fun b hb => (hx b hb).2.2
 have Q := P.step (ex := q6l x) k hx
 refine ⟨⟨Q.kp, Q.fr, Q.tr_, fun _ => Q.ob rfl, Q.tdl, fun _ => Q.hdl rfl, Q.len, fun i p T F e1 e2 _ _ _ => Q.dk i p T F e1 e2 rfl rfl rfl, Q.twd, fun _ => Q.hwd rfl, fun x ss hm _ => Q.wk x ss hm rfl, Q.ttd, fun _ => Q.htd rfl, fun y ss' hm' _ => ?_, Q.ttr, fun _ => Q.htr rfl, Q.tlo, fun _ => Q.hlo rfl⟩, tk⟩
 by_cases ey : y = x
 ·subst ey
  refine ⟨tx, as ++ [a], by rw [q05, List.map_append]; rfl, ?_⟩
  dsimp only
  rw [if_pos rfl]
  exact (L.tk tk).app (.one (tk _ _ ha))
 ·have := Q.tl y ss' hm' (by simp [q6l, ey])
  dsimp only
  rw [if_neg ey]
  exact this
theorem RnP.runW {dx dl' wd' : Addr} {u : Bool} {tr' : Addr} {T' : Tb} (P : RnP C Cd exN H0 H r R tg dl wd td tr lo ps wa ta) (htr : (upd H r (.ins C dx (q29 dl R.bound u wd td tr' lo))) tr' = some (.dK T')) (ttr : tg tr' = .tries) :
  RnP C Cd exN H0 (upd H r (.ins C dx (q29 dl R.bound u wd td tr' lo))) r { R with up := u, tries := T' } tg dl wd td tr' lo ps wa ta ∧ TK H (upd H r (.ins C dx (q29 dl R.bound u wd td tr' lo))) := by
 obtain ⟨dy, ho⟩ := P.ob rfl
 have hx : ∀ b ∈ [r], qia (tg b) = true ∧ tg b ≠ .no ∧ ∀ ys, H b ≠ some (.tup ys) := by
  intro b hb
  simp at hb
  subst hb
  rw [P.tr_]
  exact ⟨rfl, by simp, fun ys e => by rw [ho] at e; cases e⟩
 have k : Kp [r] H (upd H r (.ins C dx (q29 dl R.bound u wd td tr' lo))) := Kp.put (by simp)
 have Q := P.step (ex := qia) k hx
 exact ⟨⟨Q.kp, Q.fr, Q.tr_, fun _ => ⟨dx, q05⟩, Q.tdl, fun _ => Q.hdl rfl, Q.len, fun i p T F e1 e2 _ _ _ => Q.dk i p T F e1 e2 rfl rfl rfl, Q.twd, fun _ => Q.hwd rfl, fun x ss hm _ => Q.wk x ss hm rfl, Q.ttd, fun _ => Q.htd rfl, fun x ss hm _ => Q.tl x ss hm rfl, ttr, fun _ => htr, Q.tlo, fun _ => Q.hlo rfl⟩, Kp.tk k fun b hb => (hx b hb).2.2⟩
end
def DkIn (C Cd : Addr) (H0 H : Hp) (r : Addr) (R : Rn) (k : Int) (p : Addr) : Prop := ∃ (tg : Addr → Tg) (dl wd td tr lo : Addr) (ps : List Addr) (wa ta : Str → Addr), RnP C Cd exN H0 H r R tg dl wd td tr lo ps wa ta ∧ ps[k.toNat]? = some p
theorem q0u {m : Nat} (h : m ≤ 900) : m < sizeLine := Nat.lt_of_le_of_lt h (by decide)
section
variable {P : Program} {w : World} {K : PySem.W.Frag} {mg : Str → Option Value} {base : Heap}
def q4n (C Cd CN : Addr) : Sp := fun vs H Q E => ∃ (r : Addr) (k : Int) (H0 : Hp) (R : Rn) (n : Nat), vs = [.ref r, .int k] ∧ RnAt C Cd H0 H r R n ∧ R.desks.length ≤ 900 ∧ (inD R k = true → ∀ p, DkIn C Cd H0 H r R k p → Q (.ref p) H) ∧ (inD R k = false → E (.ref CN) none H)
theorem q7c : FnScope ["self", "number"] ["self", "number"] (q03 q3l) := ⟨rfl, rfl, rfl, by decide +kernel, rfl, by decide +kernel, by decide +kernel⟩
theorem qcr {f C Cd C_NoDesk : Addr} {fd : FuncData} (Fn : Fun K "desk_at" "Runner.desk_at" q3l f fd) (T : TxtR K mg C) (B : Blt mg) (g_NoDesk : mg "NoDesk" = some (.ref C_NoDesk)) (q_NoDesk : PySem.W.excIn K C_NoDesk [.type "ValueError", .type "Exception", .type "BaseException", .type "object"] "ValueError.__new__" = true) :
  FnOk P w K mg base (CX1 P w) 1 f fd ["self", "number"] (q4n C Cd C_NoDesk) := by
 refine Fn.okX q7c (fun vs H Q E h => ?_) (fun cdv A outer s H vs Q E hr h => ?_)
 ·obtain ⟨r, k, H0, R, n, rfl, _⟩ := h
  rfl
 ·obtain ⟨r, k, H0, R, n, rfl, I, hz, k1, k2⟩ := h
  have nd := q7c.nd
  have fx := q3n (CX := CX1 P w) (P := P) (w := w) (K := K) (mg := mg) (base := base) (N := ["self", "number"]) (qual := "Runner.desk_at") (scope := q03 q3l) (f := f) (cd := cdv) (A := A) (outer := outer) (s := s) (H := H) (E := E)
  obtain ⟨tg, dl, wd, td, tr, lo, ps, wa, ta, Pp⟩ := I.ex
  obtain ⟨dx, ho⟩ := Pp.ob rfl
  have hdl := Pp.hdl rfl
  refine ⟨_, (q15 (q7i (PW.pt (q34 (q0h qa8 (pv 1) q01 (q0q _)) (q2f (q0h qdv (pv 1) (q0f q0k rfl B.len PySem.boot_len (q00 (q12 (pv 0) rfl) q04)) (q0q _)))))
   (q1m (q7x fx rfl g_NoDesk q_NoDesk PySem.F.excBase_ValueError (q00 q0e q04)))
   (q58 q0b))
   (q1m (q2q (q0a (q0j q13 (q12 (pv 0) rfl) (pv 1) (fun _ _ => rfl)))))), ?_⟩
  refine ⟨_, rfl, _, _, rfl, rfl, _, rfl, ?_⟩
  by_cases h0 : k < 0
  ·refine iteD h0 (iteT ⟨(by show 1 ≤ sizeLine; decide), ?_⟩)
   exact k2 (by unfold inD; rw [decide_eq_false (by omega : ¬ 0 ≤ k)]; rfl)
  refine q1o h0 ?_
  refine ⟨_, rfl, _, rfl, r, C, dx, _, _, rfl, ho, T.cl, T.nDesks, q4p .., dl, _, rfl, .inl (SqL.of hdl), _, _, rfl, rfl, _, rfl, ?_⟩
  rw [List.length_map, Pp.len]
  by_cases h1 : (R.desks.length : Int) ≤ k
  ·refine iteD h1 ⟨(by show 1 ≤ sizeLine; decide), ?_⟩
   exact k2 (by unfold inD; rw [decide_eq_false (by omega : ¬ k < (R.desks.length : Int)), Bool.and_false])
  refine q1o h1 ?_
  obtain ⟨i, rfl⟩ : ∃ i : Nat, k = (i : Int) := ⟨k.toNat, by omega⟩
  have hi : i < ps.length := by rw [Pp.len]; omega
  have ei : ps[i]? = some ps[i] := List.getElem?_eq_getElem hi
  refine ⟨_, rfl, r, C, dx, _, _, rfl, ho, T.cl, T.nDesks, q4p .., _, rfl, dl, _, _, _, rfl, rfl, SqL.of hdl, q07 (j := i) (v := .ref ps[i]) (by rw [List.getElem?_map, ei]; rfl), ?_⟩
  refine k1 (by unfold inD; rw [decide_eq_true (by omega : (0 : Int) ≤ i), decide_eq_true (by omega : (i : Int) < (R.desks.length : Int))]; rfl) _ ⟨tg, dl, wd, td, tr, lo, ps, wa, ta, Pp, ?_⟩
  show ps[(i : Int).toNat]? = some ps[i]
  rw [Int.toNat_natCast]; exact ei
def q79 (C Cd : Addr) : Sp := fun vs H Q _ => ∃ (r : Addr) (k : Int) (H0 : Hp) (R : Rn) (n : Nat), vs = [.ref r, .int k] ∧ RnAt C Cd H0 H r R n ∧ R.desks.length ≤ 900 ∧ inD R k = true ∧ ∀ p, DkIn C Cd H0 H r R k p → Q (.ref p) H
theorem q8j {C Cd CN f : Addr} {fd : FuncData} {k : Nat} {ps : List Str} (F : FnOk P w K mg base (CX1 P w) k f fd ps (q4n C Cd CN)) : FnOk P w K mg base CX0 k f fd ps (q79 C Cd) :=
 F.calm fun vs H Q E ⟨r, k, H0, R, n, e, I, hz, h1, h2⟩ => ⟨r, k, H0, R, n, e, I, hz, fun _ => h2, fun h => absurd (h1.symm.trans h) (by simp)⟩
theorem q49 {dl wd td tr lo : Addr} {b : Int} {u : Bool} {m : Str} (h : (["desks", "bound", "up", "works", "trails", "tries", "lost"] : List Str).all (fun y => decide (¬ m = y)) = true) : (q29 dl b u wd td tr lo).lookup m = none := by
 rw [fR]
 simp only [List.all_cons, List.all_nil, Bool.and_true, Bool.and_eq_true, decide_eq_true_eq] at h
 obtain ⟨h1, h2, h3, h4, h5, h6, h7⟩ := h
 have q : ∀ {y : Str}, ¬ m = y → (m == y) = false := fun z => beq_eq_false_iff_ne.mpr z
 simp only [List.lookup_cons, q h1, q h2, q h3, q h4, q h5, q h6, q h7, List.lookup_nil]
def q6q (C Cd : Addr) : Sp := fun vs H Q _ => ∃ (r a : Addr) (d : Int) (q : Rq) (H0 : Hp) (R : Rn) (n : Nat), vs = [.ref r, .ref a] ∧ LoAt H a (d, q) ∧ RnAt C Cd H0 H r R n ∧ R.desks.length ≤ 900 ∧ n ≤ 890 ∧ inD R d = true ∧
 ∀ H', RnAt C Cd H0 H' r (q0n R d q).2 (n + 1) → TK H H' → Q (.str (q0n R d q).1) H'
theorem q72 : FnScope ["self", "sent"] ["self", "sent"] (q03 q45) := ⟨rfl, rfl, rfl, by decide +kernel, rfl, by decide +kernel, by decide +kernel⟩
theorem qbd {R : Rn} {k : Int} (h : inD R k = true) : ∃ i : Nat, k = (i : Int) ∧ ∃ T F, R.desks[i]? = some (T, F) := by
 unfold inD at h
 simp only [Bool.and_eq_true, decide_eq_true_eq] at h
 refine ⟨k.toNat, by omega, ?_⟩
 have hi : k.toNat < R.desks.length := by omega
 exact ⟨_, _, List.getElem?_eq_getElem hi⟩
theorem qda {f C Cd : Addr} {fd : FuncData} (Fn : Fun K "arrive" "Runner.arrive" q45 f fd) (DRunner_desk_at : Md P w K mg base CX0 C 1 "desk_at" ["self", "number"] (q79 C Cd)) (DDesk_told : Md P w K mg base CX0 Cd 4 "told" ["self", "request"] (qey Cd)) :
  FnOk P w K mg base CX0 5 f fd ["self", "sent"] (q6q C Cd) := by
 refine Fn.ok q72 (fun vs H Q E h => ?_) (fun cdv A outer s H vs Q E hr h => ?_)
 ·obtain ⟨r, a, d, q, H0, R, n, rfl, _⟩ := h
  rfl
 ·obtain ⟨r, a, d, q, H0, R, n, rfl, ⟨b, ha, hb⟩, I, hz, hn, hd, k⟩ := h
  have nd := q72.nd
  obtain ⟨tg, dl, wd, td, tr, lo, ps, wa, ta, Pp⟩ := I.ex
  obtain ⟨dx, ho⟩ := Pp.ob rfl
  refine ⟨_, (q06 (q0a (q31 DDesk_told (hr.mono (by decide)) q0m (q31 DRunner_desk_at (hr.mono (by decide)) q0m (pv 0) (q00 (q0j q0i (pv 1) q01 (fun _ _ => rfl)) q04)) (q00 (q0j q0i (pv 1) q01 (fun _ _ => rfl)) q04)))), ?_⟩
  refine ⟨_, rfl, r, dx, _, rfl, ho, q49 (by decide +kernel), _, rfl, a, _, _, _, rfl, rfl, SqT.of ha, q07 (j := 0) rfl, r, d, H0, R, n, rfl, I, hz, hd, fun p Dk => ?_⟩
  clear Pp ho
  obtain ⟨tg, dl, wd, td, tr, lo, ps, wa, ta, Pp, ep⟩ := Dk
  obtain ⟨i, rfl, T, F, eT⟩ := qbd hd
  rw [Int.toNat_natCast] at ep
  obtain ⟨tp, s, dd, D, ts, td'⟩ := Pp.dk i p T F ep eT rfl rfl rfl
  obtain ⟨dy, hp⟩ := D.ob
  refine ⟨p, dy, _, rfl, hp, q3m _ _ (by decide +kernel) (by decide +kernel), _, rfl, a, _, _, _, rfl, rfl, SqT.of ha, q07 (j := 1) rfl, p, b, s, dd, T, F, q, rfl, hb, D, (I.ok.ok T F (List.mem_of_getElem? eT)).mono (by omega), fun H' D' kp => ?_⟩
  have ea : q0n R i q = ((q20 T F q).1, setD R i (q20 T F q).2) := by unfold q0n; rw [Int.toNat_natCast, eT]
  have R1 := I.ok.arrive (d := (i : Int)) (q := q)
  rw [ea] at k R1
  refine k H' ⟨R1, tg, dl, wd, td, tr, lo, ps, wa, ta, Pp.deskW ep tp D ts td' D' kp⟩ (Kp.tk kp fun c hc ys e => ?_)
  simp at hc
  rcases hc with z | z
  ·rw [z, D.st] at e; cases e
  ·rw [z, D.ft] at e; cases e
end
end K08
end
section
namespace K08
open PySem L2
section
variable {P : Program} {w : World} {K : PySem.W.Frag} {mg : Str → Option Value} {base : Heap}
def qid (C Cd : Addr) : Sp := fun vs H Q _ => ∃ (r c : Addr) (x word : Str) (i : Int) (ss : List Stp) (s : Stp) (H0 : Hp) (R : Rn) (n : Nat), vs = [.ref r, .str x, .ref c] ∧ H c = some (.tup [.str word, .int i]) ∧ RnAt C Cd H0 H r R n ∧ R.wk x = some ss ∧ 0 ≤ i ∧ ss[i.toNat]? = some s ∧
 ∀ a H', H a = none → LoAt H' a (s.d, reqM x s word i) → Kp [] H H' → Q (.ref a) H'
theorem qfa : FnScope ["self", "name", "coming", "step"] ["self", "name", "coming"] (q03 rReq) := ⟨rfl, rfl, rfl, by decide +kernel, rfl, by decide +kernel, by decide +kernel⟩
theorem qjo {f C Cd : Addr} {fd : FuncData} (Fn : Fun K "request_for" "Runner.request_for" rReq f fd) (T : TxtR K mg C) : FnOk P w K mg base CX0 1 f fd ["self", "name", "coming"] (qid C Cd) := by
 refine Fn.ok qfa (fun vs H Q E h => ?_) (fun cdv A outer s H vs Q E hr h => ?_)
 ·obtain ⟨r, c, x, word, i, ss, s, H0, R, n, rfl, _⟩ := h
  rfl
 ·obtain ⟨r, c, x, word, i, ss, s, H0, R, n, rfl, hc, I, hw, h0, es, k⟩ := h
  have nd := qfa.nd
  have hu := q3r hr
  obtain ⟨tg, dl, wd, td, tr, lo, ps, wa, ta, Pp⟩ := I.ex
  obtain ⟨dx, ho⟩ := Pp.ob rfl
  obtain ⟨_, as, hwa, S⟩ := Pp.wk x ss (q2k hw) rfl
  have gw : DGet H wd (.str x) (some (.ref (wa x))) := by
   have := DGet.k (k := Sum.inr x) (Pp.hwd rfl)
   rw [q2z] at this
   rw [show wkF R.works x = some ss from hw] at this
   exact this
  obtain ⟨j, rfl⟩ : ∃ j : Nat, i = (j : Int) := ⟨i.toNat, by omega⟩
  rw [Int.toNat_natCast] at es
  obtain ⟨sa, esa, hsa⟩ := S.get es
  refine ⟨_, (q02 (q0r (i := 3) nd rfl (Or.inl rfl) (q0j q13 (q4b hu (q12 (pv 0) rfl) (pv 1) (fun _ _ => rfl)) (q0j q0i (pv 2) q01 (fun _ _ => rfl)) (fun _ _ => rfl)))
   (q06 (q0a (q1g (q00 (q0j q0i (pv 3) q01 (fun _ _ => rfl)) (q00 (q1g (q00 (q0j q0i (pv 2) q01 (fun _ _ => rfl)) (q00 (pv 1) (q00 (q0j q0i (pv 2) q01 (fun _ _ => rfl)) (q00 (q0j q0i (pv 3) q01 (fun _ _ => rfl)) (q00 (q0j q0i (pv 3) q01 (fun _ _ => rfl)) q04)))))) q04)))))), ?_⟩
  refine ⟨_, rfl, r, C, dx, _, _, rfl, ho, T.cl, T.nWorks, q3s .., _, rfl, wd, _, rfl, gw, _, rfl, c, _, _, _, rfl, rfl, SqT.of hc, q07 (j := 1) rfl, wa x, _, _, _, rfl, rfl, SqL.of hwa, q07 (j := j) (v := .ref sa) (by rw [List.getElem?_map, esa]; rfl), ?_⟩
  refine ⟨_, rfl, sa, _, _, _, rfl, rfl, SqT.of hsa, q07 (j := 0) rfl, _, rfl, c, _, _, _, rfl, rfl, SqT.of hc, q07 (j := 0) rfl, _, rfl, _, rfl, c, _, _, _, rfl, rfl, SqT.of hc, q07 (j := 1) rfl, _, rfl, sa, _, _, _, rfl, rfl, SqT.of hsa, q07 (j := 1) rfl,
   _, rfl, sa, _, _, _, rfl, rfl, SqT.of hsa, q07 (j := 2) rfl, (by show 5 ≤ sizeLine; decide), fun b hb => ⟨(by show 2 ≤ sizeLine; decide), fun a ha => ?_⟩⟩
  obtain ⟨nab, ha'⟩ := q1r ha
  refine k a _ ha' ⟨b, q05, ?_⟩ ((Kp.new hb).trans (Kp.new ha))
  rw [q08 (Ne.symm nab), q05]
  rfl
def optV : Option Str → V
 | some w => .str w
 | none => .non
def qfd (C Cd : Addr) : Sp := fun vs H Q _ => ∃ (r a : Addr) (luck : Str) (d : Int) (q : Rq) (H0 : Hp) (R : Rn) (n : Nat), vs = [.ref r, .ref a, .str luck] ∧ LoAt H a (d, q) ∧ RnAt C Cd H0 H r R n ∧ R.desks.length ≤ 900 ∧ n ≤ 890 ∧ inD R d = true ∧
 ∀ H', RnAt C Cd H0 H' r (q2c R d q luck).2 (n + 1) → TK H H' → Q (optV (q2c R d q luck).1) H'
theorem qc3 : FnScope ["self", "sent", "luck", "word"] ["self", "sent", "luck"] (q03 qak) := ⟨rfl, rfl, rfl, by decide +kernel, rfl, by decide +kernel, by decide +kernel⟩
theorem qh1 {f C Cd : Addr} {fd : FuncData} (Fn : Fun K "send" "Runner.send" qak f fd) (T : TxtR K mg C) (DRunner_arrive : Md P w K mg base CX0 C 5 "arrive" ["self", "sent"] (q6q C Cd)) : FnOk P w K mg base CX0 6 f fd ["self", "sent", "luck"] (qfd C Cd) := by
 refine Fn.ok qc3 (fun vs H Q E h => ?_) (fun cdv A outer s H vs Q E hr h => ?_)
 ·obtain ⟨r, a, luck, d, q, H0, R, n, rfl, _⟩ := h
  rfl
 ·obtain ⟨r, a, luck, d, q, H0, R, n, rfl, La, I, hz, hn, hd, k⟩ := h
  have nd := qc3.nd
  obtain ⟨tg, dl, wd, td, tr, lo, ps, wa, ta, Pp⟩ := I.ex
  obtain ⟨dx, ho⟩ := Pp.ob rfl
  refine ⟨_, (q02 (q0w (q0h q23 (pv 2) q0e (q0q _))
   (q02 (q21 (q51 PySem.F.plainAttrs_list PySem.F.slot_list_append PySem.F.type_list_append q1e (q12 (pv 0) rfl) (q00 (pv 1) q04)))
   (q06 (q0a q4g)))
   q0b)
   (q02 (q0r (i := 3) nd rfl (Or.inl rfl) (q31 DRunner_arrive (hr.mono (by decide)) q0m (pv 0) (q00 (pv 1) q04)))
   (q06 (q0a (q6o (q0h q23 (pv 2) q0e (q0q _)) (pv 3) q4g))))), ?_⟩
  refine ⟨_, rfl, rfl, _, rfl, ?_⟩
  unfold q2c at k
  by_cases e1 : luck = "lost"
  ·refine iteD (congrArg V.str e1) ?_
   rw [if_pos e1] at k
   obtain ⟨al, hl, L⟩ := Pp.hlo rfl
   refine ⟨_, rfl, r, C, dx, _, _, rfl, ho, T.cl, T.nLost, q6d .., .inl ⟨rfl, _, SqL.of hl⟩, _, rfl, lo, _, _, rfl, rfl, hl, ?_, ?_⟩
   ·rw [List.length_map, L.len]
    exact q0u (by have := I.ok.sl; omega)
   have hd' := hd
   unfold inD at hd'
   simp only [Bool.and_eq_true, decide_eq_true_eq] at hd'
   obtain ⟨P2, tk⟩ := Pp.lostW hl L La
   exact k _ ⟨I.ok.addLost hd'.1 hd'.2, tg, dl, wd, td, tr, lo, ps, wa, ta, P2⟩ tk
  ·refine q1o (fun z => e1 (V.str.inj z)) ?_
   rw [if_neg e1] at k
   refine ⟨_, rfl, r, dx, _, rfl, ho, q49 (by decide +kernel), _, rfl, r, a, d, q, H0, R, n, rfl, La, I, hz, hn, hd, fun H' I' tk => ?_⟩
   refine ⟨_, rfl, rfl, _, rfl, ?_⟩
   have k' := k H' I' tk
   by_cases e2 : luck = "ok"
   ·refine iteD (congrArg V.str e2) ?_
    rw [if_pos e2] at k'
    exact ⟨_, rfl, k'⟩
   ·refine q1o (fun z => e2 (V.str.inj z)) ?_
    rw [if_neg e2] at k'
    exact k'
def q7l (C Cd : Addr) : Sp := fun vs H Q _ => ∃ (r c : Addr) (x : Str) (undo : Bool) (i : Int) (H0 : Hp) (R : Rn) (n : Nat), vs = [.ref r, .str x, .ref c] ∧ H c = some (.tup [.str (if undo = true then "undo" else "do"), .int i]) ∧ RnAt C Cd H0 H r R n ∧ n ≤ 890 ∧
 ∀ H', RnAt C Cd H0 H' r (q0v R x undo).2 (n + 1) → TK H H' → Q (optV (q0v R x undo).1) H'
theorem q5t : FnScope ["self", "name", "coming"] ["self", "name", "coming"] (q03 q3g) := ⟨rfl, rfl, rfl, by decide +kernel, rfl, by decide +kernel, by decide +kernel⟩
theorem qa1 {f C Cd : Addr} {fd : FuncData} (Fn : Fun K "unheard" "Runner.unheard" q3g f fd) (T : TxtR K mg C) : FnOk P w K mg base CX0 1 f fd ["self", "name", "coming"] (q7l C Cd) := by
 refine Fn.ok q5t (fun vs H Q E h => ?_) (fun cdv A outer s H vs Q E hr h => ?_)
 ·obtain ⟨r, c, x, undo, i, H0, R, n, rfl, _⟩ := h
  rfl
 ·obtain ⟨r, c, x, undo, i, H0, R, n, rfl, hc, I, hn, k⟩ := h
  have nd := q5t.nd
  have hu := q3r hr
  obtain ⟨tg, dl, wd, td, tr, lo, ps, wa, ta, Pp⟩ := I.ex
  obtain ⟨dx, ho⟩ := Pp.ob rfl
  refine ⟨_, (q02 (q0w (q0h q23 (q0j q0i (pv 2) q01 (fun _ _ => rfl)) q0e (q0q _))
   (q06 (q0a q4g))
   q0b)
   (q02 (q28 hu (q12 (pv 0) rfl) (pv 1) (q0d q24 (q9i hu (q12 (pv 0) rfl) (pv 1) q01 ⟨rfl, rfl, rfl, rfl⟩) q01) rfl)
   (q06 (q0a (q6o (q0h qdv (q4b hu (q12 (pv 0) rfl) (pv 1) (fun _ _ => rfl)) (q12 (pv 0) rfl) (q0q _)) q0e q4g))))), ?_⟩
  refine ⟨_, rfl, c, _, _, _, rfl, rfl, SqT.of hc, q07 (j := 0) rfl, rfl, _, rfl, ?_⟩
  cases undo with
  | true =>
   refine iteD rfl ?_
   exact k H (I.mono (Nat.le_succ n)) (TK.refl H)
  | false =>
   refine q1o (by intro z; exact absurd (V.str.inj z) (by decide +kernel)) ?_
   have htr := Pp.htr rfl
   have hl := I.ok.lt
   refine ⟨_, rfl, r, C, dx, _, _, rfl, ho, T.cl, T.nTries, q4r .., tr, rfl, .inl ⟨_, .inl htr⟩, _, rfl, _, DGet.k (k := Sum.inr x) htr, _, _, by rw [I.ok.it.get x], rfl, ?_⟩
   refine ⟨_, rfl, r, C, dx, _, _, rfl, ho, T.cl, T.nTries, q4r .., _, rfl, tr, _, rfl, DPut.k (k := Sum.inr x) htr (q0u (by omega)), ?_⟩
   have P2 := Pp.triesW (T' := putK R.tries (Sum.inr x : Key) (.int (getI R.tries x + 1)))
   have tk : TK H (upd H tr (.dK (putK R.tries (Sum.inr x : Key) (.int (getI R.tries x + 1))))) := Kp.tk (xs := [tr]) (Kp.put (by simp)) fun b hb ys e => by simp at hb; subst hb; rw [htr] at e; cases e
   have R2 := I.ok.setTries (x := x) (i := getI R.tries x + 1)
   obtain ⟨dx2, ho2⟩ := P2.ob rfl
   have g2 := DGet.k (k := Sum.inr x) (P2.htr rfl)
   rw [q1l, if_pos rfl] at g2
   have k' := k _ ⟨R2, tg, dl, wd, td, tr, lo, ps, wa, ta, P2⟩ tk
   unfold q0v at k'
   rw [if_neg (by simp)] at k'
   refine ⟨_, rfl, r, C, dx2, _, _, rfl, ho2, T.cl, T.nTries, q4r .., _, rfl, tr, _, rfl, g2, _, rfl, r, C, dx2, _, _, rfl, ho2, T.cl, T.nBound, qdk .., _, _, rfl, rfl, _, rfl, ?_⟩
   by_cases hb : R.bound ≤ getI R.tries x + 1
   ·refine iteD hb ?_
    rw [if_pos hb] at k'
    exact k'
   ·refine q1o hb ?_
    rw [if_neg hb] at k'
    exact k'
def q81 (C Cd : Addr) : Sp := fun vs H Q _ => ∃ (r a : Addr) (x : Str) (e : En) (ss : List Stp) (H0 : Hp) (R : Rn) (n : Nat), vs = [.ref r, .str x, .ref a] ∧ H a = some (.tup (enV e)) ∧ RnAt C Cd H0 H r R n ∧ n ≤ 890 ∧ R.wk x = some ss ∧ 0 ≤ e.2 ∧ e.2 < ss.length ∧
 ∀ H', RnAt C Cd H0 H' r (q1v R x e) (n + 2) → TK H H' → Q (.ref a) H'
theorem q4u {R : Rn} {n : Nat} (h : RnOk R n) {x : Str} {ss ss' : List Stp} (h1 : (x, ss) ∈ R.works) (h2 : (x, ss') ∈ R.works) : ss = ss' := by
 have nod := h.nod
 generalize R.works = ws at nod h1 h2
 induction ws with
 | nil => cases h1
 | cons w ws ih =>
  rw [List.map_cons, List.nodup_cons] at nod
  rcases List.mem_cons.mp h1 with z1 | z1 <;> rcases List.mem_cons.mp h2 with z2 | z2
  ·rw [← z1] at z2; cases z2; rfl
  ·exact absurd (List.mem_map.mpr ⟨_, z2, by rw [← z1]⟩) nod.1
  ·exact absurd (List.mem_map.mpr ⟨_, z1, by rw [← z2]⟩) nod.1
  ·exact ih nod.2 z1 z2
theorem q67 : FnScope ["self", "name", "entry"] ["self", "name", "entry"] (q03 q3f) := ⟨rfl, rfl, rfl, by decide +kernel, rfl, by decide +kernel, by decide +kernel⟩
theorem qaj {f C Cd : Addr} {fd : FuncData} (Fn : Fun K "written" "Runner.written" q3f f fd) (T : TxtR K mg C) : FnOk P w K mg base CX0 1 f fd ["self", "name", "entry"] (q81 C Cd) := by
 refine Fn.ok q67 (fun vs H Q E h => ?_) (fun cdv A outer s H vs Q E hr h => ?_)
 ·obtain ⟨r, a, x, e, ss, H0, R, n, rfl, _⟩ := h
  rfl
 ·obtain ⟨r, a, x, e, ss, H0, R, n, rfl, ha, I, hn, hw, he0, he1, k⟩ := h
  have nd := q67.nd
  have hu := q3r hr
  obtain ⟨tg, dl, wd, td, tr, lo, ps, wa, ta, Pp⟩ := I.ex
  obtain ⟨dx, ho⟩ := Pp.ob rfl
  have htr := Pp.htr rfl
  have hl := I.ok.lt
  refine ⟨_, (q02 (q28 hu (q12 (pv 0) rfl) (pv 1) q01 rfl)
   (q02 (q21 (q51 PySem.F.plainAttrs_list PySem.F.slot_list_append PySem.F.type_list_append q1e (q4b hu (q12 (pv 0) rfl) (pv 1) (fun _ _ => rfl)) (q00 (pv 2) q04)))
   (q06 (q0a (pv 2))))), ?_⟩
  refine ⟨_, rfl, r, C, dx, _, _, rfl, ho, T.cl, T.nTries, q4r .., _, rfl, tr, _, rfl, DPut.k (k := Sum.inr x) htr (q0u (by omega)), ?_⟩
  have P2 := Pp.triesW (T' := putK R.tries (Sum.inr x : Key) (.int 0))
  have tk : TK H (upd H tr (.dK (putK R.tries (Sum.inr x : Key) (.int 0)))) := Kp.tk (xs := [tr]) (Kp.put (by simp)) fun b hb ys e => by simp at hb; subst hb; rw [htr] at e; cases e
  generalize upd H tr (.dK (putK R.tries (Sum.inr x : Key) (.int 0))) = H2 at P2 tk
  obtain ⟨dx2, ho2⟩ := P2.ob rfl
  have hm : (x, ss) ∈ R.works := q2k hw
  obtain ⟨_, as, hta, L⟩ := P2.tl x ss hm rfl
  have gt : DGet H2 td (.str x) (some (.ref (ta x))) := by
   have := DGet.k (k := Sum.inr x) (P2.htd rfl)
   rw [q2z] at this
   rw [show wkF R.works x = some ss from hw] at this
   exact this
  have ha2 := tk _ _ ha
  refine ⟨_, rfl, r, C, dx2, _, _, rfl, ho2, T.cl, T.nTrails, q3z .., _, rfl, td, _, rfl, gt, .inl ⟨rfl, _, SqL.of hta⟩, _, rfl, ta x, _, _, rfl, rfl, hta, ?_, ?_⟩
  ·rw [List.length_map, L.len]
   exact q0u (by have := I.ok.st x; show (R.trail x).length ≤ 900; omega)
  obtain ⟨P3, tk3⟩ := P2.trailW hm hta L ha2
  refine ⟨_, rfl, k _ ⟨?_, tg, dl, wd, td, tr, lo, ps, wa, ta, P3⟩ (tk.trans tk3)⟩
  exact I.ok.written fun ss' hm' => by rw [← q4u I.ok hm hm']; exact ⟨he0, he1⟩
def AnV (H : Hp) (v : V) : An → Prop
 | .non => v = .non
 | .bl b => v = .bl b
 | .str s => v = .str s
 | .en e => ∃ a, v = .ref a ∧ H a = some (.tup (enV e))
theorem AnV.tk {H H' : Hp} {v : V} {an : An} (h : AnV H v an) (k : TK H H') : AnV H' v an := by
 cases an with
 | en e => obtain ⟨a, h1, h2⟩ := h; exact ⟨a, h1, k _ _ h2⟩
 | _ => exact h
def q7o (C Cd : Addr) : Sp := fun vs H Q _ => ∃ (r c : Addr) (x luck : Str) (undo : Bool) (i : Int) (ss : List Stp) (s : Stp) (H0 : Hp) (R : Rn) (n : Nat), vs = [.ref r, .str x, .ref c, .str luck] ∧ H c = some (.tup [.str (if undo = true then "undo" else "do"), .int i]) ∧ RnAt C Cd H0 H r R n ∧ R.desks.length ≤ 900 ∧ n ≤ 880 ∧
 R.wk x = some ss ∧ 0 ≤ i ∧ ss[i.toNat]? = some s ∧ ∀ v H', RnAt C Cd H0 H' r (q0x R x s undo i luck).2 (n + 4) → TK H H' → AnV H' v (optA (q0x R x s undo i luck).1) → Q v H'
theorem q5q (R : Rn) (d : Int) (q : Rq) (luck : Str) : (q2c R d q luck).2.works = R.works ∧ (q2c R d q luck).2.trail = R.trail ∧ (q2c R d q luck).2.desks.length = R.desks.length := by
 unfold q2c
 split
 ·exact ⟨rfl, rfl, rfl⟩
 ·obtain ⟨h1, h2, h3, _⟩ := q1t R d q
  exact ⟨h1, h2, h3⟩
theorem q6n (R : Rn) (x : Str) (u : Bool) : (q0v R x u).2.works = R.works ∧ (q0v R x u).2.trail = R.trail ∧ (q0v R x u).2.desks.length = R.desks.length := by
 unfold q0v
 split <;> exact ⟨rfl, rfl, rfl⟩
theorem q63 : FnScope ["self", "name", "coming", "luck", "word"] ["self", "name", "coming", "luck"] (q03 q2n) := ⟨rfl, rfl, rfl, by decide +kernel, rfl, by decide +kernel, by decide +kernel⟩
theorem qai {f C Cd : Addr} {fd : FuncData} (Fn : Fun K "attempt" "Runner.attempt" q2n f fd) (T : TxtR K mg C) (DRunner_request_for : Md P w K mg base CX0 C 1 "request_for" ["self", "name", "coming"] (qid C Cd)) (DRunner_send : Md P w K mg base CX0 C 6 "send" ["self", "sent", "luck"] (qfd C Cd))
  (DRunner_unheard : Md P w K mg base CX0 C 1 "unheard" ["self", "name", "coming"] (q7l C Cd)) (DRunner_written : Md P w K mg base CX0 C 1 "written" ["self", "name", "entry"] (q81 C Cd)) : FnOk P w K mg base CX0 7 f fd ["self", "name", "coming", "luck"] (q7o C Cd) := by
 refine Fn.ok q63 (fun vs H Q E h => ?_) (fun cdv A outer sh H vs Q E hr h => ?_)
 ·obtain ⟨r, c, x, luck, undo, i, ss, s, H0, R, n, rfl, _⟩ := h
  rfl
 ·obtain ⟨r, c, x, luck, undo, i, ss, s, H0, R, n, rfl, hc, I, hz, hn, hw, h0, es, k⟩ := h
  have nd := q63.nd
  have ob : ∀ {H' : Hp} {R' : Rn} {m : Nat}, RnAt C Cd H0 H' r R' m → ∃ dx fs, H' r = some (.ins C dx fs) ∧ ∀ m : Str, (["desks", "bound", "up", "works", "trails", "tries", "lost"] : List Str).all (fun y => decide (¬ m = y)) = true → fs.lookup m = none := fun J => by
   obtain ⟨tg, dl, wd, td, tr, lo, ps, wa, ta, Pp⟩ := J.ex
   obtain ⟨dx, ho⟩ := Pp.ob rfl
   exact ⟨dx, _, ho, fun m hm => q49 hm⟩
  obtain ⟨dx, fs, ho, no⟩ := ob I
  have hm := q2k hw
  have hsd := I.ok.sd x ss hm s (List.mem_of_getElem? es)
  have hid : inD R s.d = true := by unfold inD; rw [decide_eq_true hsd.1, decide_eq_true hsd.2]; rfl
  have hil : i < ss.length := by have := (List.getElem?_eq_some_iff.mp es).1; omega
  obtain ⟨t2, h2, key⟩ : ∃ t2, PSs (cxOf CX0 P w K mg base ["self", "name", "coming", "luck", "word"] "Runner.attempt" (q03 q2n) f cdv A outer sh H E).nox ((q0c q2n).drop 2) t2 ∧
    ∀ (ow : Option Str) (H1 : Hp) (R1 : Rn) (m : Nat), m ≤ n + 2 → RnAt C Cd H0 H1 r R1 m → TK H H1 → R1.works = R.works →
     (∀ v H', RnAt C Cd H0 H' r (match ow with | some y => q1v R1 x (y, i) | none => R1) (m + 2) → TK H H' → AnV H' v (optA (ow.map fun y => (y, i))) → Q v H') →
     t2 { nx := fun _ H' => Q .non H', rt := Q } [some (.ref r), some (.str x), some (.ref c), some (.str luck), some (optV ow)] H1 := by
   refine ⟨_, (q02 (q0w (q4k (q73 (pv 4)))
   (q06 (q0a q4g))
   q0b)
   (q06 (q0a (q31 DRunner_written (hr.mono (by decide)) q0m (pv 0) (q00 (pv 1) (q00 (q1g (q00 (pv 4) (q00 (q0j q0i (pv 2) q01 (fun _ _ => rfl)) q04))) q04)))))), fun ow H1 R1 m hm1 I1 tk1 ew q => ?_⟩
   cases ow with
   | none =>
    refine ⟨_, rfl, _, rfl, iteD rfl ?_⟩
    exact q .non H1 (I1.mono (by omega)) tk1 rfl
   | some y =>
    refine ⟨_, rfl, _, rfl, q1o (by intro z; cases z) ?_⟩
    obtain ⟨dx1, fs1, ho1, no1⟩ := ob I1
    refine ⟨_, rfl, r, dx1, _, rfl, ho1, no1 _ (by decide +kernel), _, rfl, _, rfl, _, rfl, c, _, _, _, rfl, rfl, SqT.of (tk1 _ _ hc), q07 (j := 1) rfl, (by show 2 ≤ sizeLine; decide), fun a ha => ?_⟩
    have kp : Kp [] H1 (upd H1 a (.tup (enV (y, i)))) := Kp.new ha
    refine ⟨r, a, x, (y, i), ss, H0, R1, m, rfl, q05, I1.same kp, by omega, ?_, h0, hil, fun H' I' tk' => ?_⟩
    ·show wkF R1.works x = some ss
     rw [ew]; exact hw
    ·exact q _ H' I' (tk1.trans ((Kp.tk kp (by simp)).trans tk')) ⟨a, rfl, tk' _ _ q05⟩
  refine ⟨_, q02 (q0r (i := 4) nd rfl (Or.inl rfl) (q31 DRunner_send (hr.mono (by decide)) q0m (pv 0) (q00 (q31 DRunner_request_for (hr.mono (by decide)) q0m (pv 0) (q00 (pv 1) (q00 (pv 2) q04))) (q00 (pv 3) q04)))) (q02 (q0w (q4k (q73 (pv 4)))
   (q06 (q0r (i := 4) nd rfl (Or.inl rfl) (q31 DRunner_unheard (hr.mono (by decide)) q0m (pv 0) (q00 (pv 1) (q00 (pv 2) q04)))))
   q0b) h2), ?_⟩
  refine ⟨_, rfl, r, dx, _, rfl, ho, no _ (by decide +kernel), _, rfl, r, dx, _, rfl, ho, no _ (by decide +kernel), _, rfl, _, rfl, r, c, x, _, i, ss, s, H0, R, n, rfl, hc, I, hw, h0, es, fun a H1 ha La kp1 => ?_⟩
  have I1 := I.same kp1
  refine ⟨_, rfl, r, a, luck, s.d, _, H0, R, n, rfl, La, I1, hz, by omega, hid, fun H2 I2 tk2 => ?_⟩
  have tk12 : TK H H2 := (Kp.tk kp1 (by simp)).trans tk2
  obtain ⟨sw, st, sl⟩ := q5q R s.d (reqM x s (if undo = true then "undo" else "do") i) luck
  have ea : q0x R x s undo i luck = match q2c R s.d (reqM x s (if undo = true then "undo" else "do") i) luck with
   | (some w, R1) => (some (w, i), q1v R1 x (w, i))
   | (none, R1) => match q0v R1 x undo with
    | (some w, R2) => (some (w, i), q1v R2 x (w, i))
    | (none, R2) => (none, R2) := rfl
  rw [ea] at k
  cases e1 : q2c R s.d (reqM x s (if undo = true then "undo" else "do") i) luck with
  | mk ow R1 =>
   rw [e1] at I2 sw st sl k
   dsimp only at I2 sw st sl
   cases ow with
   | some y =>
    refine ⟨_, rfl, _, rfl, q1o (by intro z; cases z) ?_⟩
    exact key (some y) H2 R1 (n + 1) (by omega) I2 tk12 sw fun v H' I' tk' an => k v H' (I'.mono (by omega)) tk' an
   | none =>
    refine ⟨_, rfl, _, rfl, iteD rfl ?_⟩
    obtain ⟨dx2, fs2, ho2, no2⟩ := ob I2
    refine ⟨_, rfl, r, dx2, _, rfl, ho2, no2 _ (by decide +kernel), _, rfl, _, rfl, r, c, x, undo, i, H0, R1, n + 1, rfl, tk12 _ _ hc, I2, by omega, fun H3 I3 tk3 => ?_⟩
    obtain ⟨uw, ut, ul⟩ := q6n R1 x undo
    dsimp only at k
    cases e2 : q0v R1 x undo with
    | mk ow2 R2 =>
     rw [e2] at I3 uw ut ul k
     dsimp only at I3 uw ut ul
     refine key ow2 H3 R2 (n + 2) (by omega) I3 (tk12.trans tk3) (uw.trans sw) fun v H' I' tk' an => ?_
     cases ow2 with
     | some y => exact k v H' (I'.mono (by omega)) tk' an
     | none => exact k v H' (I'.mono (by omega)) tk' an
end
end K08
end
section
namespace K08
open PySem L2
def exWT : Tg → Bool
 | .works => true
 | .trails => true
 | _ => false
theorem q88 (ws : List (Str × List Stp)) (f : Str → Addr) {x : Str} (ss : List Stp) (a : Addr) (h : wkF ws x = none) : putK (wkT ws f) (Sum.inr x : Key) (.ref a) = wkT (ws ++ [(x, ss)]) fun y => if y = x then a else f y := by
 rw [q9p _ (by rw [q2z, h]; rfl)]
 unfold wkT
 rw [List.map_append, List.map_cons, List.map_nil]
 dsimp only
 rw [if_pos rfl]
 congr 1
 refine List.map_congr_left fun w hw => ?_
 rw [if_neg (q3h h w hw)]
section
variable {P : Program} {w : World} {K : PySem.W.Frag} {mg : Str → Option Value} {base : Heap}
def goNo (R : Rn) (x : Str) : Bool := R.up && (R.wk x).isNone
def spGo (C Cd CW : Addr) : Sp := fun vs H Q E => ∃ (r : Addr) (x luck : Str) (H0 : Hp) (R : Rn) (n : Nat), vs = [.ref r, .str x, .str luck] ∧ RnAt C Cd H0 H r R n ∧ R.desks.length ≤ 900 ∧ n ≤ 880 ∧
 (goNo R x = false → ∀ v H', RnAt C Cd H0 H' r (goM R x luck).2 (n + 4) → TK H H' → AnV H' v (goM R x luck).1 → Q v H') ∧ (goNo R x = true → E (.ref CW) none H)
theorem qi5 : FnScope ["self", "name", "luck", "coming"] ["self", "name", "luck"] (q03 rGo) := ⟨rfl, rfl, rfl, by decide +kernel, rfl, by decide +kernel, by decide +kernel⟩
theorem qjx {f C Cd C_NoWork : Addr} {fd : FuncData} (Fn : Fun K "go" "Runner.go" rGo f fd) (T : TxtR K mg C) (B : Blt mg) (Dnext_of : Df P w K mg base CX0 3 "next_of" ["many", "trail"] spNx) (DRunner_attempt : Md P w K mg base CX0 C 7 "attempt" ["self", "name", "coming", "luck"] (q7o C Cd))
  (g_NoWork : mg "NoWork" = some (.ref C_NoWork)) (q_NoWork : PySem.W.excIn K C_NoWork [.type "ValueError", .type "Exception", .type "BaseException", .type "object"] "ValueError.__new__" = true) : FnOk P w K mg base (CX1 P w) 8 f fd ["self", "name", "luck"] (spGo C Cd C_NoWork) := by
 refine Fn.okX qi5 (fun vs H Q E h => ?_) (fun cdv A outer s H vs Q E hr h => ?_)
 ·obtain ⟨r, x, luck, H0, R, n, rfl, _⟩ := h
  rfl
 ·obtain ⟨r, x, luck, H0, R, n, rfl, I, hz, hn, k1, k2⟩ := h
  have nd := qi5.nd
  have hu := q3r hr
  have fx := q3n (CX := CX1 P w) (P := P) (w := w) (K := K) (mg := mg) (base := base) (N := ["self", "name", "luck", "coming"]) (qual := "Runner.go") (scope := q03 rGo) (f := f) (cd := cdv) (A := A) (outer := outer) (s := s) (H := H) (E := E)
  obtain ⟨tg, dl, wd, td, tr, lo, ps, wa, ta, Pp⟩ := I.ex
  obtain ⟨dx, ho⟩ := Pp.ob rfl
  unfold goNo at k1 k2
  refine ⟨_, (q15 (q2q (q0w (q1a (q16 (q12 (pv 0) rfl)))
   (q06 (q0a q0e))
   q0b))
   (q15 (q7i (q4k (q54 hu (pv 1) (q12 (pv 0) rfl)))
   (q1m (q7x fx rfl g_NoWork q_NoWork PySem.F.excBase_ValueError (q00 q0e q04)))
   (q58 q0b))
   (q15 (q2q (q0r (i := 3) nd rfl (Or.inl rfl) (q0z Dnext_of (hr.mono (by decide)) q0m (q00 (q0f q0k rfl B.len PySem.boot_len (q00 (q4b hu (q12 (pv 0) rfl) (pv 1) (fun _ _ => rfl)) q04)) (q00 (q4b hu (q12 (pv 0) rfl) (pv 1) (fun _ _ => rfl)) q04)))))
   (q15 (q2q (q0w (q0h q23 (q0j q0i (pv 3) q01 (fun _ _ => rfl)) q0e (q0q _))
   (q06 (q0a q0e))
   q0b))
   (q1m (q2q (q0a (q31 DRunner_attempt (hr.mono (by decide)) q0m (pv 0) (q00 (pv 1) (q00 (pv 3) (q00 (pv 2) q04))))))))))), ?_⟩
  refine ⟨_, rfl, r, C, dx, _, _, rfl, ho, T.cl, T.nUp, qhn .., _, rfl, ?_⟩
  cases eu : R.up with
  | false =>
   refine iteT ?_
   rw [eu] at k1
   have := k1 rfl (.str "stopped") H
   unfold goM at this
   rw [if_pos eu] at this
   exact this (I.mono (by omega)) (TK.refl H) rfl
  | true =>
   refine iteF ?_
   rw [eu, Bool.true_and] at k1 k2
   have gw := DGet.k (k := Sum.inr x) (Pp.hwd rfl)
   rw [q2z] at gw
   refine ⟨_, rfl, _, rfl, r, C, dx, _, _, rfl, ho, T.cl, T.nWorks, q3s .., wd, _, rfl, gw, _, rfl, ?_⟩
   cases ew : R.wk x with
   | none =>
    rw [show wkF R.works x = none from ew]
    refine iteT ⟨(by show 1 ≤ sizeLine; decide), ?_⟩
    exact k2 (by rw [ew]; rfl)
   | some ss =>
    have k1 := k1 (by rw [ew]; rfl)
    have ew' : wkF R.works x = some ss := ew
    rw [ew'] at gw ⊢
    refine iteF ?_
    have hm := q2k ew'
    obtain ⟨_, as, hwa, S⟩ := Pp.wk x ss hm rfl
    obtain ⟨_, at', hta, L⟩ := Pp.tl x ss hm rfl
    have gt := DGet.k (k := Sum.inr x) (Pp.htd rfl)
    rw [q2z, ew'] at gt
    have el : (((as.map V.ref).length : Nat) : Int) = (ss.length : Int) := by rw [List.length_map, S.len]
    refine ⟨_, rfl, r, C, dx, _, _, rfl, ho, T.cl, T.nWorks, q3s .., _, rfl, wd, _, rfl, gw, wa x, _, rfl, .inl (SqL.of hwa), _, rfl, r, C, dx, _, _, rfl, ho, T.cl, T.nTrails, q3z .., _, rfl, td, _, rfl, gt, ?_⟩
    rw [el]
    refine ⟨_, ta x, at', R.trail x, rfl, ⟨hta, L⟩, fun c H1 hc hc1 kp1 => ?_⟩
    have I1 := I.same kp1
    have tk1 : TK H H1 := Kp.tk kp1 (by simp)
    have eg : goM R x luck = match nxOf ss.length (R.trail x) with
     | .dO i => match ss[i.toNat]? with
      | some s => (optA (q0x R x s false i luck).1, (q0x R x s false i luck).2)
      | none => (.non, R)
     | .un i => match ss[i.toNat]? with
      | some s => (optA (q0x R x s true i luck).1, (q0x R x s true i luck).2)
      | none => (.non, R)
     | _ => (.str "ended", R) := by
     unfold goM
     rw [if_neg (by rw [eu]; simp), ew] <;> rfl
    rw [eg] at k1
    have ob1 : ∃ dx fs, H1 r = some (.ins C dx fs) ∧ ∀ m : Str, (["desks", "bound", "up", "works", "trails", "tries", "lost"] : List Str).all (fun y => decide (¬ m = y)) = true → fs.lookup m = none := ⟨dx, _, kp1.get ho nEm, fun m hm => q49 hm⟩
    obtain ⟨dx1, fs1, ho1, no1⟩ := ob1
    cases en : nxOf ss.length (R.trail x) with
    | dn =>
     rw [en] at hc1 k1
     refine ⟨_, rfl, c, _, _, _, rfl, rfl, SqT.of hc1, q07 (j := 0) rfl, rfl, _, rfl, iteD rfl ?_⟩
     exact k1 _ H1 (I1.mono (by omega)) tk1 rfl
    | ud =>
     rw [en] at hc1 k1
     refine ⟨_, rfl, c, _, _, _, rfl, rfl, SqT.of hc1, q07 (j := 0) rfl, rfl, _, rfl, iteD rfl ?_⟩
     exact k1 _ H1 (I1.mono (by omega)) tk1 rfl
    | dO i =>
     have hi := I.ok.next hm (.inl en)
     rw [en] at hc1 k1
     have hil : i.toNat < ss.length := by omega
     have es : ss[i.toNat]? = some ss[i.toNat] := List.getElem?_eq_getElem hil
     dsimp only at k1
     rw [es] at k1
     refine ⟨_, rfl, c, _, _, _, rfl, rfl, SqT.of hc1, q07 (j := 0) rfl, rfl, _, rfl, q1o (by intro z; exact absurd (V.str.inj z) (by decide +kernel)) ?_⟩
     refine ⟨_, rfl, r, dx1, _, rfl, ho1, no1 _ (by decide +kernel), _, rfl, _, rfl, _, rfl, r, c, x, luck, false, i, ss, _, H0, R, n, rfl, hc1, I1, hz, hn, ew, hi.1, es, fun v H' I' tk' an => ?_⟩
     exact k1 v H' I' (tk1.trans tk') an
    | un i =>
     have hi := I.ok.next hm (.inr en)
     rw [en] at hc1 k1
     have hil : i.toNat < ss.length := by omega
     have es : ss[i.toNat]? = some ss[i.toNat] := List.getElem?_eq_getElem hil
     dsimp only at k1
     rw [es] at k1
     refine ⟨_, rfl, c, _, _, _, rfl, rfl, SqT.of hc1, q07 (j := 0) rfl, rfl, _, rfl, q1o (by intro z; exact absurd (V.str.inj z) (by decide +kernel)) ?_⟩
     refine ⟨_, rfl, r, dx1, _, rfl, ho1, no1 _ (by decide +kernel), _, rfl, _, rfl, _, rfl, r, c, x, luck, true, i, ss, _, H0, R, n, rfl, hc1, I1, hz, hn, ew, hi.1, es, fun v H' I' tk' an => ?_⟩
     exact k1 v H' I' (tk1.trans tk') an
def qez (C Cd : Addr) : Sp := fun vs H Q _ => ∃ (r : Addr) (i : Int) (H0 : Hp) (R : Rn) (n : Nat), vs = [.ref r, .int i] ∧ RnAt C Cd H0 H r R n ∧ R.desks.length ≤ 900 ∧ n ≤ 880 ∧ ∀ v H', RnAt C Cd H0 H' r (q2w R i).2 (n + 1) → TK H H' → AnV H' v (q2w R i).1 → Q v H'
theorem qd0 : FnScope ["self", "which"] ["self", "which"] (q03 qa7) := ⟨rfl, rfl, rfl, by decide +kernel, rfl, by decide +kernel, by decide +kernel⟩
theorem qhe {f C Cd : Addr} {fd : FuncData} (Fn : Fun K "late" "Runner.late" qa7 f fd) (T : TxtR K mg C) (B : Blt mg) (DRunner_arrive : Md P w K mg base CX0 C 5 "arrive" ["self", "sent"] (q6q C Cd)) : FnOk P w K mg base CX0 6 f fd ["self", "which"] (qez C Cd) := by
 refine Fn.ok qd0 (fun vs H Q E h => ?_) (fun cdv A outer s H vs Q E hr h => ?_)
 ·obtain ⟨r, i, H0, R, n, rfl, _⟩ := h
  rfl
 ·obtain ⟨r, i, H0, R, n, rfl, I, hz, hn, k⟩ := h
  have nd := qd0.nd
  obtain ⟨tg, dl, wd, td, tr, lo, ps, wa, ta, Pp⟩ := I.ex
  obtain ⟨dx, ho⟩ := Pp.ob rfl
  obtain ⟨al, hl, L⟩ := Pp.hlo rfl
  refine ⟨_, (q02 (q0w (PW.pt (q34 (q0h qa8 (pv 1) q01 (q0q _)) (q2f (q0h qdv (pv 1) (q0f q0k rfl B.len PySem.boot_len (q00 (q12 (pv 0) rfl) q04)) (q0q _)))))
   (q06 (q0a q4g))
   q0b)
   (q06 (q0a (q31 DRunner_arrive (hr.mono (by decide)) q0m (pv 0) (q00 (q0j q13 (q12 (pv 0) rfl) (pv 1) (fun _ _ => rfl)) q04))))), ?_⟩
  unfold q2w at k
  refine ⟨_, rfl, _, _, rfl, rfl, _, rfl, ?_⟩
  by_cases h0 : i < 0
  ·rw [if_pos h0] at k
   exact iteD h0 (iteT (k .non H (I.mono (by omega)) (TK.refl H) rfl))
  rw [if_neg h0] at k
  refine q1o h0 ?_
  refine ⟨_, rfl, _, rfl, r, C, dx, _, _, rfl, ho, T.cl, T.nLost, q6d .., lo, _, rfl, .inl (SqL.of hl), _, _, rfl, rfl, _, rfl, ?_⟩
  rw [List.length_map, L.len]
  by_cases h1 : (R.lost.length : Int) ≤ i
  ·refine iteD h1 ?_
   rw [List.getElem?_eq_none_iff.mpr (by omega)] at k
   exact k .non H (I.mono (by omega)) (TK.refl H) rfl
  refine q1o h1 ?_
  obtain ⟨j, rfl⟩ : ∃ j : Nat, i = (j : Int) := ⟨i.toNat, by omega⟩
  have hj : j < R.lost.length := by omega
  have hja : j < al.length := by rw [L.len]; exact hj
  have ej : R.lost[j]? = some R.lost[j] := List.getElem?_eq_getElem hj
  have ea : al[j]? = some al[j] := List.getElem?_eq_getElem hja
  rw [Int.toNat_natCast, ej] at k
  have La := L.at_ j _ _ ea ej
  have hd := I.ok.ld _ (List.getElem_mem hj)
  generalize R.lost[j] = q at k La hd
  obtain ⟨d, q⟩ := q
  have hid : inD R d = true := by unfold inD; rw [decide_eq_true hd.1, decide_eq_true hd.2]; rfl
  refine ⟨_, rfl, r, dx, _, rfl, ho, q49 (by decide +kernel), _, rfl, r, C, dx, _, _, rfl, ho, T.cl, T.nLost, q6d .., _, rfl, lo, _, _, _, rfl, rfl, SqL.of hl, q07 (j := j) (v := .ref al[j]) (by rw [List.getElem?_map, ea]; rfl),
   r, al[j], d, q, H0, R, n, rfl, La, I, hz, by omega, hid, fun H' I' tk => ?_⟩
  exact k _ H' I' tk rfl
def qf2 (C Cd CN : Addr) : Sp := fun vs H Q E => ∃ (r : Addr) (d : Int) (x : Str) (m : Int) (H0 : Hp) (R : Rn) (n : Nat), vs = [.ref r, .int d, .str x, .int m] ∧ RnAt C Cd H0 H r R n ∧ R.desks.length ≤ 900 ∧ n ≤ 880 ∧
 (inD R d = true → ∀ H', RnAt C Cd H0 H' r (q2t R d x m).2 (n + 1) → TK H H' → Q (.bl true) H') ∧ (inD R d = false → E (.ref CN) none H)
theorem qco : FnScope ["self", "number", "thing", "many"] ["self", "number", "thing", "many"] (q03 q8q) := ⟨rfl, rfl, rfl, by decide +kernel, rfl, by decide +kernel, by decide +kernel⟩
theorem qgr {f C Cd CN : Addr} {fd : FuncData} (Fn : Fun K "fill" "Runner.fill" q8q f fd) (DRunner_desk_at : Md P w K mg base (CX1 P w) C 1 "desk_at" ["self", "number"] (q4n C Cd CN)) (DDesk_put : Md P w K mg base CX0 Cd 2 "put" ["self", "thing", "many"] (qfu Cd)) :
  FnOk P w K mg base (CX1 P w) 3 f fd ["self", "number", "thing", "many"] (qf2 C Cd CN) := by
 refine Fn.okX qco (fun vs H Q E h => ?_) (fun cdv A outer s H vs Q E hr h => ?_)
 ·obtain ⟨r, d, x, m, H0, R, n, rfl, _⟩ := h
  rfl
 ·obtain ⟨r, d, x, m, H0, R, n, rfl, I, hz, hn, k1, k2⟩ := h
  have nd := qco.nd
  have fx := q3n (CX := CX1 P w) (P := P) (w := w) (K := K) (mg := mg) (base := base) (N := ["self", "number", "thing", "many"]) (qual := "Runner.fill") (scope := q03 q8q) (f := f) (cd := cdv) (A := A) (outer := outer) (s := s) (H := H) (E := E)
  obtain ⟨tg, dl, wd, td, tr, lo, ps, wa, ta, Pp⟩ := I.ex
  obtain ⟨dx, ho⟩ := Pp.ob rfl
  refine ⟨_, (q15 (q7h (qhi fx DDesk_put (hr.mono (by decide)) (q7t fx DRunner_desk_at (hr.mono (by decide)) (pv 0) (q00 (pv 1) q04)) (q00 (pv 2) (q00 (pv 3) q04))))
   (q1m (q2q (q0a q1p)))), ?_⟩
  refine ⟨_, rfl, r, dx, _, rfl, ho, q49 (by decide +kernel), _, rfl, r, d, H0, R, n, rfl, I, hz, fun hd p Dk => ?_, fun hd => k2 hd⟩
  clear Pp ho
  obtain ⟨tg, dl, wd, td, tr, lo, ps, wa, ta, Pp, ep⟩ := Dk
  obtain ⟨i, rfl, T, F, eT⟩ := qbd hd
  rw [Int.toNat_natCast] at ep
  obtain ⟨tp, s, dd, D, ts, td'⟩ := Pp.dk i p T F ep eT rfl rfl rfl
  obtain ⟨dy, hp⟩ := D.ob
  have okT := I.ok.ok T F (List.mem_of_getElem? eT)
  refine ⟨p, dy, _, rfl, hp, q3m _ _ (by decide +kernel) (by decide +kernel), _, rfl, _, rfl, p, s, dd, T, F, x, m, rfl, D, okT.i, by have := okT.lt; omega, ?_⟩
  have ef : q2t R i x m = (.bl true, setD R i (putK T (Sum.inr x : Key) (.int (getI T x + m)), F)) := by unfold q2t; rw [if_pos hd, Int.toNat_natCast, eT]
  have k1 := k1 hd
  rw [ef] at k1
  have kp : Kp [s, dd] H (upd H s (.dK (putK T (Sum.inr x : Key) (.int (getI T x + m))))) := Kp.put (by simp)
  refine k1 _ ⟨I.ok.setD ⟨okT.i.put _ _, okT.f, by have := okT.lt; have := q0t T (Sum.inr x : Key) (V.int (getI T x + m)); omega, by have := okT.lf; omega⟩, tg, dl, wd, td, tr, lo, ps, wa, ta, Pp.deskW ep tp D ts td' D.putS kp⟩ (Kp.tk kp fun c hc ys e => ?_)
  simp at hc
  rcases hc with z | z
  ·rw [z, D.st] at e; cases e
  ·rw [z, D.ft] at e; cases e
theorem qcj {dl wd td tr lo : Addr} {b : Int} {u : Bool} : (q29 dl b u wd td tr lo).length < 1000 := by rw [fR]; show (7 : Nat) < 1000; decide
def q9h (C Cd : Addr) (de : Deed) : Sp := fun vs H Q _ => ∃ (r : Addr) (H0 : Hp) (R : Rn) (n : Nat), vs = [.ref r] ∧ RnAt C Cd H0 H r R n ∧ ∀ v H', RnAt C Cd H0 H' r (q1c R de).2 n → TK H H' → AnV H' v (q1c R de).1 → Q v H'
theorem qcf : FnScope ["self"] ["self"] (q03 qap) := ⟨rfl, rfl, rfl, by decide +kernel, rfl, by decide +kernel, by decide +kernel⟩
theorem qg2 {f C Cd : Addr} {fd : FuncData} (Fn : Fun K "stop" "Runner.stop" qap f fd) (T : TxtR K mg C) : FnOk P w K mg base CX0 1 f fd ["self"] (q9h C Cd .stop) := by
 refine Fn.ok qcf (fun vs H Q E h => ?_) (fun cdv A outer s H vs Q E hr h => ?_)
 ·obtain ⟨r, H0, R, n, rfl, _⟩ := h
  rfl
 ·obtain ⟨r, H0, R, n, rfl, I, k⟩ := h
  have nd := qcf.nd
  obtain ⟨tg, dl, wd, td, tr, lo, ps, wa, ta, Pp⟩ := I.ex
  obtain ⟨dx, ho⟩ := Pp.ob rfl
  unfold q1c at k
  refine ⟨_, (q02 (q0w (q1a (q16 (q12 (pv 0) rfl)))
   (q06 (q0a q1p))
   q0b)
   (q02 (q2v (pv 0) q1p rfl)
   (q02 (q2v (pv 0) q3y rfl)
   (q06 (q0a q1p))))), ?_⟩
  refine ⟨_, rfl, r, C, dx, _, _, rfl, ho, T.cl, T.nUp, qhn .., _, rfl, ?_⟩
  cases eu : R.up with
  | false =>
   refine iteT ?_
   dsimp only at k
   rw [if_neg (by rw [eu]; simp)] at k
   exact k _ H I (TK.refl H) rfl
  | true =>
   refine iteF ?_
   dsimp only at k
   rw [if_pos eu] at k
   have htr := Pp.htr rfl
   have nrt : tr ≠ r := fun z => by rw [z, ho] at htr; cases htr
   refine ⟨_, rfl, r, C, dx, _, rfl, ho, T.cl, T.nUp, qcj, ?_⟩
   rw [q9n]
   obtain ⟨P1, tk1⟩ := Pp.runW (dl' := dl) (wd' := wd) (dx := dx) (u := false) (tr' := tr) (T' := R.tries) (by rw [q08 nrt]; exact htr) Pp.ttr
   have ho1 : (upd H r (.ins C dx (q29 dl R.bound false wd td tr lo))) r = some (.ins C dx (q29 dl R.bound false wd td tr lo)) := q05
   generalize upd H r (.ins C dx (q29 dl R.bound false wd td tr lo)) = H1 at P1 tk1 ho1
   refine fun t ht => ⟨_, rfl, r, C, dx, _, rfl, (Kp.new (ex := []) ht).get ho1 nEm, T.cl, T.nTries, qcj, ?_⟩
   rw [q8n]
   have P2 := P1.retag (ex := exN) (tg' := fun b => if b = t then .tries else tg b) (Kp.new (o := .dK []) ht) fun b hb => if_neg fun z => hb (by rw [z]; exact ht)
   have ntr : t ≠ r := fun z => by rw [z, ho1] at ht; cases ht
   obtain ⟨P3, tk3⟩ := P2.runW (dl' := dl) (wd' := wd) (dx := dx) (u := false) (tr' := t) (T' := []) (by rw [q08 ntr, q05]) (if_pos rfl)
   refine k _ _ ⟨?_, _, dl, wd, td, t, lo, ps, wa, ta, P3⟩ ((tk1.trans (Kp.tk (xs := []) (Kp.new ht) (by simp))).trans tk3) rfl
   exact I.ok.calm false [] (fun k v e => by cases e) (Nat.zero_le _)
theorem qbv : FnScope ["self"] ["self"] (q03 q9w) := ⟨rfl, rfl, rfl, by decide +kernel, rfl, by decide +kernel, by decide +kernel⟩
theorem qgb {f C Cd : Addr} {fd : FuncData} (Fn : Fun K "wake" "Runner.wake" q9w f fd) (T : TxtR K mg C) : FnOk P w K mg base CX0 1 f fd ["self"] (q9h C Cd .wake) := by
 refine Fn.ok qbv (fun vs H Q E h => ?_) (fun cdv A outer s H vs Q E hr h => ?_)
 ·obtain ⟨r, H0, R, n, rfl, _⟩ := h
  rfl
 ·obtain ⟨r, H0, R, n, rfl, I, k⟩ := h
  have nd := qbv.nd
  obtain ⟨tg, dl, wd, td, tr, lo, ps, wa, ta, Pp⟩ := I.ex
  obtain ⟨dx, ho⟩ := Pp.ob rfl
  unfold q1c at k
  refine ⟨_, (q02 (q0w (q16 (q12 (pv 0) rfl))
   (q06 (q0a q1p))
   q0b)
   (q02 (q2v (pv 0) q1p rfl)
   (q06 (q0a q1p)))), ?_⟩
  refine ⟨_, rfl, r, C, dx, _, _, rfl, ho, T.cl, T.nUp, qhn .., _, rfl, ?_⟩
  cases eu : R.up with
  | true =>
   refine iteT ?_
   dsimp only at k
   rw [if_pos eu] at k
   exact k _ H I (TK.refl H) rfl
  | false =>
   refine iteF ?_
   dsimp only at k
   rw [if_neg (by rw [eu]; simp)] at k
   have htr := Pp.htr rfl
   have nrt : tr ≠ r := fun z => by rw [z, ho] at htr; cases htr
   refine ⟨_, rfl, r, C, dx, _, rfl, ho, T.cl, T.nUp, qcj, ?_⟩
   rw [q9n]
   obtain ⟨P1, tk1⟩ := Pp.runW (dl' := dl) (wd' := wd) (dx := dx) (u := true) (tr' := tr) (T' := R.tries) (by rw [q08 nrt]; exact htr) Pp.ttr
   exact k _ _ ⟨I.ok.calm true R.tries I.ok.it I.ok.lt, tg, dl, wd, td, tr, lo, ps, wa, ta, P1⟩ tk1 rfl
def qb9 (C Cd CN : Addr) : Sp := fun vs H Q E => ∃ (r l : Addr) (x : Str) (as : List Addr) (ss : List Stp) (H0 : Hp) (R : Rn) (n : Nat), vs = [.ref r, .str x, .ref l] ∧ H l = some (.lst (as.map V.ref)) ∧ Stps H as ss ∧ ss.length ≤ 900 ∧ RnAt C Cd H0 H r R n ∧ R.desks.length ≤ 900 ∧ n ≤ 880 ∧
 ((ss.all fun s => inD R s.d) = true → ∀ v H', RnAt C Cd H0 H' r (q2b R x ss).2 (n + 1) → TK H H' → AnV H' v (q2b R x ss).1 → Q v H') ∧ ((ss.all fun s => inD R s.d) = false → E (.ref CN) none H)
theorem q9d : FnScope ["self", "name", "steps", "step"] ["self", "name", "steps"] (q03 q4s) := ⟨rfl, rfl, rfl, by decide +kernel, rfl, by decide +kernel, by decide +kernel⟩
theorem qep {f C Cd CN : Addr} {fd : FuncData} (Fn : Fun K "start" "Runner.start" q4s f fd) (T : TxtR K mg C) (B : Blt mg) (DRunner_desk_at : Md P w K mg base (CX1 P w) C 1 "desk_at" ["self", "number"] (q4n C Cd CN)) : FnOk P w K mg base (CX1 P w) 2 f fd ["self", "name", "steps"] (qb9 C Cd CN) := by
 refine Fn.okX q9d (fun vs H Q E h => ?_) (fun cdv A outer s H vs Q E hr h => ?_)
 ·obtain ⟨r, l, x, as, ss, H0, R, n, rfl, _⟩ := h
  rfl
 ·obtain ⟨r, l, x, as, ss, H0, R, n, rfl, hl, S, hs, I, hz, hn, k1, k2⟩ := h
  have nd := q9d.nd
  have hu := q3r hr
  have fx := q3n (CX := CX1 P w) (P := P) (w := w) (K := K) (mg := mg) (base := base) (N := ["self", "name", "steps", "step"]) (qual := "Runner.start") (scope := q03 q4s) (f := f) (cd := cdv) (A := A) (outer := outer) (s := s) (H := H) (E := E)
  obtain ⟨tg, dl, wd, td, tr, lo, ps, wa, ta, Pp⟩ := I.ex
  obtain ⟨dx, ho⟩ := Pp.ob rfl
  refine ⟨_, (q15 (qh4 fx rfl (q1j (pv 2)) (q10 (i := 3) nd rfl (Or.inl rfl))
   (q1m (q7h (q7t fx DRunner_desk_at (hr.mono (by decide)) (pv 0) (q00 (q0j q0i (pv 3) q01 (fun _ _ => rfl)) q04)))))
   (q15 (q2q (q0w (q4k (qjs hu (pv 1) (q12 (pv 0) rfl)))
   (q06 (q0a q1p))
   q0b))
   (q15 (q2q (q28 hu (q12 (pv 0) rfl) (pv 1) (q27 q4h rfl B.list_ PyProof.Rows.boot_list (q00 (pv 2) q04)) rfl))
   (q15 (q2q (q28 hu (q12 (pv 0) rfl) (pv 1) (q1i q04) rfl))
   (q1m (q2q (q0a q1p))))))), ?_⟩
  refine ⟨_, rfl, l, rfl, ⟨_, SqL.of hl⟩, ?_⟩
  refine qd6 (K := K) (a := l) (xs := as.map V.ref) (fun i σ H2 => ∃ v, σ = [some (.ref r), some (.str x), some (.ref l), v] ∧ H2 = H ∧ ∀ s ∈ ss.take i, inD R s.d = true) ⟨none, rfl, rfl, by simp⟩ (fun i σ H2 _ ⟨_, _, e, _⟩ => by rw [e]; exact SqL.of hl) ?_ ?_
  ·rintro i v σ H2 hx ⟨v3, rfl, rfl, hall⟩
   rw [List.getElem?_map] at hx
   cases ea : as[i]? with
   | none => rw [ea] at hx; cases hx
   | some a =>
    rw [ea] at hx
    obtain rfl : V.ref a = v := Option.some.inj hx
    have hi : i < ss.length := by rw [← S.len]; exact (List.getElem?_eq_some_iff.mp ea).1
    have es : ss[i]? = some ss[i] := List.getElem?_eq_getElem hi
    have ha := S.at_ i a _ ea es
    refine ⟨_, rfl, r, dx, _, rfl, ho, q49 (by decide +kernel), _, rfl, a, _, _, _, rfl, rfl, SqT.of ha, q07 (j := 0) rfl, r, _, H0, R, n, rfl, I, hz, fun hd p _ => ?_, fun hd => ?_⟩
    ·refine ⟨_, rfl, rfl, fun s hs => ?_⟩
     rw [List.take_add_one, es] at hs
     rcases List.mem_append.mp hs with z | z
     ·exact hall s z
     ·simp at z; rw [z]; exact hd
    ·refine k2 ?_
     cases q : ss.all fun s => inD R s.d with
     | false => rfl
     | true =>
      have := List.all_eq_true.mp q _ (List.getElem_mem hi)
      rw [hd] at this
      cases this
  rintro σ H2 ⟨v3, rfl, rfl, hall⟩
  rw [List.length_map, S.len, List.take_length] at hall
  have hA : (ss.all fun s => inD R s.d) = true := List.all_eq_true.mpr hall
  have k1 := k1 hA
  unfold q2b at k1
  rw [if_pos hA] at k1
  have hwd := Pp.hwd rfl
  have htd := Pp.htd rfl
  have gw := DGet.k (k := Sum.inr x) hwd
  rw [q2z] at gw
  refine ⟨_, rfl, _, rfl, r, C, dx, _, _, rfl, ho, T.cl, T.nWorks, q3s .., wd, _, rfl, gw, _, rfl, ?_⟩
  cases ew : R.wk x with
  | some ss' =>
   rw [show wkF R.works x = some ss' from ew]
   rw [ew] at k1
   exact iteT (k1 _ H2 (I.mono (by omega)) (TK.refl _) rfl)
  | none =>
   have ew' : wkF R.works x = none := ew
   rw [ew']
   rw [ew] at k1
   refine iteF ?_
   have hsw := I.ok.sw
   have lw : (wkT R.works wa).length < sizeLine := by unfold wkT; rw [List.length_map]; exact q0u (by omega)
   have lt' : (wkT R.works ta).length < sizeLine := by unfold wkT; rw [List.length_map]; exact q0u (by omega)
   refine ⟨_, rfl, l, _, rfl, .inl (SqL.of hl), fun lc hlc => ?_⟩
   have kc : Kp [] H2 (upd H2 lc (.lst (as.map V.ref))) := Kp.new hlc
   refine ⟨_, rfl, r, C, dx, _, _, rfl, kc.get ho nEm, T.cl, T.nWorks, q3s .., _, rfl, wd, _, rfl, DPut.k (k := Sum.inr x) (kc.get hwd nEm) lw, ?_⟩
   have nwr : wd ≠ r := fun z => by rw [z, ho] at hwd; cases hwd
   have nwt : td ≠ wd := fun z => by
    have h1 := Pp.twd
    have h2 := Pp.ttd
    rw [z, h1] at h2
    cases h2
   have ntr : td ≠ r := fun z => by rw [z, ho] at htd; cases htd
   refine ⟨(by show 0 ≤ sizeLine; decide), fun lt hlt => ?_⟩
   obtain ⟨nlw, hlt1⟩ := q1r hlt
   obtain ⟨nlc, hlt2⟩ := q1r hlt1
   have nll : lc ≠ l := fun z => by rw [z, hl] at hlc; cases hlc
   have nwc : wd ≠ lc := fun z => by rw [z, hlc] at hwd; cases hwd
   have ntc : td ≠ lc := fun z => by rw [z, hlc] at htd; cases htd
   have ntl : td ≠ lt := fun z => by rw [z, hlt2] at htd; cases htd
   have nrl : r ≠ lt := fun z => by rw [z, hlt2] at ho; cases ho
   have nrc : r ≠ lc := fun z => by rw [z, hlc] at ho; cases ho
   have ho4 : (upd (upd (upd H2 lc (.lst (as.map V.ref))) wd (.dK (putK (wkT R.works wa) (Sum.inr x : Key) (.ref lc)))) lt (.lst [])) r = some (.ins C dx (q29 dl R.bound R.up wd td tr lo)) := by
    rw [q08 nrl, q08 (Ne.symm nwr), q08 nrc]; exact ho
   have htd4 : (upd (upd (upd H2 lc (.lst (as.map V.ref))) wd (.dK (putK (wkT R.works wa) (Sum.inr x : Key) (.ref lc)))) lt (.lst [])) td = some (.dK (wkT R.works ta)) := by
    rw [q08 ntl, q08 nwt, q08 ntc]; exact htd
   refine ⟨_, rfl, r, C, dx, _, _, rfl, ho4, T.cl, T.nTrails, q3z .., _, rfl, td, _, rfl, DPut.k (k := Sum.inr x) htd4 lt', ?_⟩
   rw [q88 R.works wa ss lc ew', q88 R.works ta ss lt ew']
   generalize hH4 : upd (upd (upd (upd H2 lc (.lst (as.map V.ref))) wd (.dK (wkT (R.works ++ [(x, ss)]) fun y => if y = x then lc else wa y))) lt (.lst [])) td (.dK (wkT (R.works ++ [(x, ss)]) fun y => if y = x then lt else ta y)) = H4
   have kl : Kp [] (upd H2 lc (.lst (as.map V.ref))) (upd (upd H2 lc (.lst (as.map V.ref))) lt (.lst [])) := Kp.new hlt1
   have k4 : Kp [wd, td] (upd (upd H2 lc (.lst (as.map V.ref))) lt (.lst [])) H4 := fun b o e hb => by
    simp at hb
    rw [← hH4, q08 hb.2]
    by_cases z : b = lt
    ·subst z; rw [q05] at e ⊢; exact e
    ·rw [q08 z] at e ⊢
     rw [q08 hb.1]; exact e
   have P1 := Pp.retag (ex := exN) (tg' := fun b => if b = lc then .wk x else if b = lt then .trail x else tg b) (kc.trans kl) fun b hb => by
    rw [if_neg fun z => hb (by rw [z]; exact hlc), if_neg fun z => hb (by rw [z]; exact hlt2)]
   have Q := P1.step (ex := exWT) k4 (by
    intro a ha
    simp at ha
    rcases ha with z | z
    ·rw [z, P1.twd]; exact ⟨rfl, by simp, fun ys e => by rw [P1.hwd rfl] at e; cases e⟩
    ·rw [z, P1.ttd]; exact ⟨rfl, by simp, fun ys e => by rw [P1.htd rfl] at e; cases e⟩)
   have h4w : H4 wd = some (.dK (wkT (R.works ++ [(x, ss)]) fun y => if y = x then lc else wa y)) := by rw [← hH4, q08 (Ne.symm nwt), q08 (Ne.symm nlw), q05]
   have h4t : H4 td = some (.dK (wkT (R.works ++ [(x, ss)]) fun y => if y = x then lt else ta y)) := by rw [← hH4, q05]
   have h4c : H4 lc = some (.lst (as.map V.ref)) := by rw [← hH4, q08 (Ne.symm ntc), q08 (Ne.symm nlc), q08 (Ne.symm nwc), q05]
   have h4l : H4 lt = some (.lst []) := by rw [← hH4, q08 (Ne.symm ntl), q05]
   have tk4 : TK H2 H4 := (Kp.tk (kc.trans kl) (by simp)).trans (Kp.tk k4 fun a ha ys e => by
    simp at ha
    rcases ha with z | z
    ·rw [z, P1.hwd rfl] at e; cases e
    ·rw [z, P1.htd rfl] at e; cases e)
   have cs : ∀ {y ss'}, (y, ss') ∈ R.works ++ [(x, ss)] → ((y, ss') ∈ R.works ∧ y ≠ x) ∨ (y = x ∧ ss' = ss) := fun {y ss'} hm => by
    rcases List.mem_append.mp hm with q | q
    ·exact .inl ⟨q, q3h ew' _ q⟩
    ·have := List.mem_singleton.mp q
     cases this
     exact .inr ⟨rfl, rfl⟩
   refine k1 _ H4 ⟨I.ok.start ew (by omega) fun s hs => ?_, (fun b => if b = lc then Tg.wk x else if b = lt then Tg.trail x else tg b), dl, wd, td, tr, lo, ps, (fun y => if y = x then lc else wa y), (fun y => if y = x then lt else ta y), ?_⟩ tk4 rfl
   ·have := hall s hs
    unfold inD at this
    simp only [Bool.and_eq_true, decide_eq_true_eq] at this
    exact this
   ·refine ⟨Q.kp, Q.fr, Q.tr_, fun _ => Q.ob rfl, Q.tdl, fun _ => Q.hdl rfl, Q.len, fun i p T F e1 e2 _ _ _ => Q.dk i p T F e1 e2 rfl rfl rfl, Q.twd, fun _ => h4w, fun y ss' hm _ => ?_, Q.ttd, fun _ => h4t, fun y ss' hm _ => ?_, Q.ttr, fun _ => Q.htr rfl, Q.tlo, fun _ => Q.hlo rfl⟩
    ·rcases cs hm with ⟨q, ny⟩ | ⟨rfl, rfl⟩
     ·have := Q.wk y ss' q rfl
      simp only [if_neg ny]
      exact this
     ·rw [if_pos rfl]
      exact ⟨if_pos rfl, as, h4c, S.tk tk4⟩
    ·rcases cs hm with ⟨q, ny⟩ | ⟨rfl, rfl⟩
     ·have := Q.tl y ss' q rfl
      simp only [if_neg ny]
      exact this
     ·refine ⟨?_, [], ?_, ?_⟩
      ·simp only [if_true]
       first | exact (if_neg nlc).trans (if_pos rfl) | exact if_neg nlc | (simp [nlc])
      ·simp only [if_true]
       exact h4l
      ·simp only [if_true]
       exact .nil _
end
end K08
end
section
namespace K08
open PySem L2
def q1y (H : Hp) (a : Addr) : Deed → Prop
 | .start x ss => ∃ l as, H a = some (.tup [.str "start", .str x, .ref l]) ∧ H l = some (.lst (as.map V.ref)) ∧ Stps H as ss ∧ ss.length ≤ 900
 | .go x luck => H a = some (.tup [.str "go", .str x, .str luck])
 | .late i => H a = some (.tup [.str "late", .int i])
 | .fill d x n => H a = some (.tup [.str "fill", .int d, .str x, .int n])
 | .stop => H a = some (.tup [.str "stop"])
 | .wake => H a = some (.tup [.str "wake"])
theorem q1y.same {H H' : Hp} {a : Addr} {d : Deed} (h : q1y H a d) (k : Kp [] H H') : q1y H' a d := by
 cases d with
 | start x ss => obtain ⟨l, as, h1, h2, h3, h4⟩ := h; exact ⟨l, as, k.get h1 nEm, k.get h2 nEm, h3.tk (Kp.tk k (by simp)), h4⟩
 | _ => exact k.get h nEm
structure Deeds (H : Hp) (as : List Addr) (ds : List Deed) : Prop where
 len : as.length = ds.length
 at_ : ∀ (i : Nat) a d, as[i]? = some a → ds[i]? = some d → q1y H a d
theorem Deeds.same {H H' : Hp} {as : List Addr} {ds : List Deed} (h : Deeds H as ds) (k : Kp [] H H') : Deeds H' as ds := ⟨h.len, fun i a d e1 e2 => (h.at_ i a d e1 e2).same k⟩
theorem RnOk.addLost1 {R : Rn} {n : Nat} {d : Int} {q : Rq} (h : RnOk R n) (hd : inD R d = true) : RnOk { R with lost := R.lost ++ [(d, q)] } (n + 1) := by
 unfold inD at hd
 simp only [Bool.and_eq_true, decide_eq_true_eq] at hd
 exact h.addLost hd.1 hd.2
theorem qet (T : Tb) (k : Key) (v u : V) : (putK (putK T k v) k u).length ≤ T.length + 1 := by
 have h : (putK (putK T k v) k u).length = (putK T k v).length := by
  have e : valV (putK T k v) k = some v := by rw [q1l, if_pos rfl]
  unfold putK at e ⊢
  split
  ·rw [if_pos, List.length_map]
   rename_i h
   simp only [List.any_map, List.any_eq_true, decide_eq_true_eq, Function.comp] at h ⊢
   obtain ⟨p, hp, e⟩ := h
   refine ⟨p, hp, ?_⟩
   rw [if_pos e]; exact e
  ·rw [if_pos, List.length_map]
   simp
 have := q0t T k v
 omega
theorem RnOk.attempt {R : Rn} {n : Nat} {x : Str} {ss : List Stp} {s : Stp} {u : Bool} {i : Int} {luck : Str} (h : RnOk R n) (hm : (x, ss) ∈ R.works) (hd : inD R s.d = true) (h0 : 0 ≤ i) (h1 : i < ss.length) : RnOk (q0x R x s u i luck).2 (n + 1) := by
 have sent : RnOk (q2c R s.d (reqM x s (if u = true then "undo" else "do") i) luck).2 (n + 1) := by
  unfold q2c
  split
  ·exact h.addLost1 hd
  ·exact h.arrive
 obtain ⟨sw, st, sl⟩ := q5q R s.d (reqM x s (if u = true then "undo" else "do") i) luck
 have stt : (q2c R s.d (reqM x s (if u = true then "undo" else "do") i) luck).2.tries = R.tries := by
  unfold q2c
  split
  ·rfl
  ·exact (q1t R s.d _).2.2.2.1
 unfold q0x
 generalize q2c R s.d (reqM x s (if u = true then "undo" else "do") i) luck = sr at sent sw st sl stt
 obtain ⟨ow, R1⟩ := sr
 dsimp only at sent sw st sl stt
 have hm1 : (x, ss) ∈ R1.works := by rw [sw]; exact hm
 have wr : ∀ (R2 : Rn) (e : En), R2 = { R1 with tries := R2.tries } → q1q R2.tries → (putK R2.tries (Sum.inr x : Key) (V.int 0)).length ≤ n + 1 → e.2 = i → RnOk (q1v R2 x e) (n + 1) := fun R2 e er ha hl he => by
  rw [er]
  refine ⟨sent.ok, sent.nod, sent.sw, sent.sl, fun y => ?_, sent.ss, ha.put _ _, hl, sent.sd, sent.ld, fun y ss' hm' z hz => ?_⟩
  ·show (if y = x then R1.trail x ++ [e] else R1.trail y).length ≤ n + 1
   rw [st]
   split
   ·have := h.st x
    simp; omega
   ·have := h.st y
    omega
  ·have hz' : z ∈ (if y = x then R1.trail x ++ [e] else R1.trail y) := hz
   split at hz'
   ·rename_i ey
    subst ey
    rcases List.mem_append.mp hz' with q | q
    ·exact sent.en _ ss' hm' z q
    ·rw [List.mem_singleton.mp q, he, q4u sent hm' hm1]
     exact ⟨h0, h1⟩
   ·exact sent.en y ss' hm' z hz'
 have hlt := h.lt
 cases ow with
 | some w => exact wr R1 (w, i) rfl sent.it (by rw [stt]; have := q0t R.tries (Sum.inr x : Key) (V.int 0); omega) rfl
 | none =>
  dsimp only
  have ha := sent.it.put (Sum.inr x : Key) (getI R1.tries x + 1)
  have hl1 : (putK R1.tries (Sum.inr x : Key) (V.int (getI R1.tries x + 1))).length ≤ n + 1 := by
   have := q0t R1.tries (Sum.inr x : Key) (V.int (getI R1.tries x + 1))
   rw [stt] at this ⊢
   omega
  by_cases hu : u = true
  ·have e : q0v R1 x u = (none, R1) := by unfold q0v; rw [if_pos hu]
   rw [e]
   exact sent
  ·by_cases hb : R1.bound ≤ getI R1.tries x + 1
   ·have e : q0v R1 x u = (some ("unsure" : Str), { R1 with tries := putK R1.tries (Sum.inr x : Key) (V.int (getI R1.tries x + 1)) }) := by unfold q0v; rw [if_neg hu, if_pos hb]
    rw [e]
    refine wr { R1 with tries := putK R1.tries (Sum.inr x : Key) (V.int (getI R1.tries x + 1)) } _ rfl ha ?_ rfl
    have := qet R1.tries (Sum.inr x : Key) (V.int (getI R1.tries x + 1)) (V.int 0)
    dsimp only
    rw [stt] at this ⊢
    omega
   ·have e : q0v R1 x u = (none, { R1 with tries := putK R1.tries (Sum.inr x : Key) (V.int (getI R1.tries x + 1)) }) := by unfold q0v; rw [if_neg hu, if_neg hb]
    rw [e]
    exact ⟨sent.ok, sent.nod, sent.sw, sent.sl, sent.st, sent.ss, ha, hl1, sent.sd, sent.ld, sent.en⟩
theorem RnOk.deed {R : Rn} {n : Nat} (h : RnOk R n) (d : Deed) (hs : ∀ x ss, d = .start x ss → ss.length ≤ 1000) : RnOk (q1c R d).2 (n + 1) := by
 have h' := h.mono (Nat.le_succ n)
 cases d with
 | start x ss =>
  show RnOk (q2b R x ss).2 (n + 1)
  unfold q2b
  split
  ·rename_i ha
   split
   ·exact h'
   ·rename_i hw
    refine h.start hw (hs x ss rfl) fun s hs => ?_
    have := List.all_eq_true.mp ha s hs
    unfold inD at this
    simp only [Bool.and_eq_true, decide_eq_true_eq] at this
    exact this
  ·exact h'
 | go x luck =>
  show RnOk (goM R x luck).2 (n + 1)
  unfold goM
  split
  ·exact h'
  ·split
   ·exact h'
   ·rename_i ss hw
    have hm := q2k hw
    split
    ·rename_i i hi
     split
     ·rename_i s es
      have hn := h.next hm (.inl hi)
      have hd := h.sd x ss hm s (List.mem_of_getElem? es)
      exact h.attempt hm (by unfold inD; rw [decide_eq_true hd.1, decide_eq_true hd.2]; rfl) hn.1 hn.2
     ·exact h'
    ·rename_i i hi
     split
     ·rename_i s es
      have hn := h.next hm (.inr hi)
      have hd := h.sd x ss hm s (List.mem_of_getElem? es)
      exact h.attempt hm (by unfold inD; rw [decide_eq_true hd.1, decide_eq_true hd.2]; rfl) hn.1 hn.2
     ·exact h'
    ·exact h'
 | late i =>
  show RnOk (q2w R i).2 (n + 1)
  unfold q2w
  split
  ·exact h'
  ·split
   ·exact h.arrive
   ·exact h'
 | fill d x m =>
  show RnOk (q2t R d x m).2 (n + 1)
  unfold q2t
  split
  ·split
   ·rename_i T F e
    have okT := h.ok T F (List.mem_of_getElem? e)
    exact h.setD ⟨okT.i.put _ _, okT.f, by have := okT.lt; have := q0t T (Sum.inr x : Key) (V.int (getI T x + m)); omega, by have := okT.lf; omega⟩
   ·exact h'
  ·exact h'
 | stop =>
  show RnOk (if R.up = true then (An.bl true, { R with up := false, tries := [] }) else (.bl false, R)).2 (n + 1)
  split
  ·exact h'.calm false [] (fun k v e => by cases e) (Nat.zero_le _)
  ·exact h'
 | wake =>
  show RnOk (if R.up = true then (An.bl false, R) else (.bl true, { R with up := true })).2 (n + 1)
  split
  ·exact h'
  ·exact h'.calm true R.tries h'.it h'.lt
theorem qag (R : Rn) (d : Deed) : (q1c R d).2.desks.length = R.desks.length ∧ (q1c R d).2.bound = R.bound := by
 have hat : ∀ (x : Str) (s : Stp) (u : Bool) (i : Int) (luck : Str), (q0x R x s u i luck).2.desks.length = R.desks.length ∧ (q0x R x s u i luck).2.bound = R.bound := fun x s u i luck => by
  have e1 : (q2c R s.d (reqM x s (if u = true then "undo" else "do") i) luck).2.desks.length = R.desks.length ∧ (q2c R s.d (reqM x s (if u = true then "undo" else "do") i) luck).2.bound = R.bound := by
   unfold q2c
   split
   ·exact ⟨rfl, rfl⟩
   ·exact ⟨(q1t R s.d _).2.2.1, (q1t R s.d _).2.2.2.2.1⟩
  unfold q0x
  generalize q2c R s.d (reqM x s (if u = true then "undo" else "do") i) luck = sr at e1
  obtain ⟨ow, R1⟩ := sr
  cases ow with
  | some w => exact e1
  | none =>
   dsimp only
   have e2 : (q0v R1 x u).2.desks.length = R1.desks.length ∧ (q0v R1 x u).2.bound = R1.bound := by unfold q0v; split <;> exact ⟨rfl, rfl⟩
   generalize q0v R1 x u = sr at e2
   obtain ⟨ow, R2⟩ := sr
   cases ow with
   | some w => exact ⟨e2.1.trans e1.1, e2.2.trans e1.2⟩
   | none => exact ⟨e2.1.trans e1.1, e2.2.trans e1.2⟩
 cases d with
 | start x ss =>
  show (q2b R x ss).2.desks.length = _ ∧ (q2b R x ss).2.bound = _
  unfold q2b
  split
  ·split <;> exact ⟨rfl, rfl⟩
  ·exact ⟨rfl, rfl⟩
 | go x luck =>
  show (goM R x luck).2.desks.length = _ ∧ (goM R x luck).2.bound = _
  unfold goM
  split
  ·exact ⟨rfl, rfl⟩
  ·split
   ·exact ⟨rfl, rfl⟩
   ·split
    ·split
     ·exact hat ..
     ·exact ⟨rfl, rfl⟩
    ·split
     ·exact hat ..
     ·exact ⟨rfl, rfl⟩
    ·exact ⟨rfl, rfl⟩
 | late i =>
  show (q2w R i).2.desks.length = _ ∧ (q2w R i).2.bound = _
  unfold q2w
  split
  ·exact ⟨rfl, rfl⟩
  ·split
   ·exact ⟨(q1t R _ _).2.2.1, (q1t R _ _).2.2.2.2.1⟩
   ·exact ⟨rfl, rfl⟩
 | fill d x m =>
  show (q2t R d x m).2.desks.length = _ ∧ (q2t R d x m).2.bound = _
  unfold q2t
  split
  ·split
   ·exact ⟨List.length_set, rfl⟩
   ·exact ⟨rfl, rfl⟩
  ·exact ⟨rfl, rfl⟩
 | stop =>
  show (if R.up = true then (An.bl true, { R with up := false, tries := [] }) else (.bl false, R)).2.desks.length = _ ∧ (if R.up = true then (An.bl true, { R with up := false, tries := [] }) else (.bl false, R)).2.bound = _
  split <;> exact ⟨rfl, rfl⟩
 | wake =>
  show (if R.up = true then (An.bl false, R) else (.bl true, { R with up := true })).2.desks.length = _ ∧ (if R.up = true then (An.bl false, R) else (.bl true, { R with up := true })).2.bound = _
  split <;> exact ⟨rfl, rfl⟩
theorem qe6 (R : Rn) : runD R [] = ([], R) := rfl
theorem q26 (R : Rn) (ds : List Deed) (d : Deed) : runD R (ds ++ [d]) = ((runD R ds).1 ++ [(q1c (runD R ds).2 d).1], (q1c (runD R ds).2 d).2) := by
 unfold runD
 rw [List.foldl_append]; rfl
theorem q8r (R : Rn) (ds : List Deed) : (runD R ds).1.length = ds.length := by
 unfold runD
 have : ∀ (ds : List Deed) (acc : List An × Rn), (ds.foldl (fun acc d => (acc.1 ++ [(q1c acc.2 d).1], (q1c acc.2 d).2)) acc).1.length = acc.1.length + ds.length := by
  intro ds
  induction ds with
  | nil => exact fun acc => rfl
  | cons d ds ih =>
   intro acc
   simp only [List.foldl_cons]
   rw [ih]
   simp; omega
 rw [this]; simp
theorem RnOk.run {R : Rn} {n : Nat} (h : RnOk R n) (ds : List Deed) (hs : ∀ d ∈ ds, ∀ x ss, d = .start x ss → ss.length ≤ 1000) : RnOk (runD R ds).2 (n + ds.length) := by
 unfold runD
 have : ∀ (ds : List Deed) (n : Nat) (acc : List An × Rn), RnOk acc.2 n → (∀ d ∈ ds, ∀ x ss, d = .start x ss → ss.length ≤ 1000) → RnOk (ds.foldl (fun acc d => (acc.1 ++ [(q1c acc.2 d).1], (q1c acc.2 d).2)) acc).2 (n + ds.length) := by
  intro ds
  induction ds with
  | nil => exact fun n acc h _ => h
  | cons d ds ih =>
   intro n acc h hs
   have := ih (n + 1) (acc.1 ++ [(q1c acc.2 d).1], (q1c acc.2 d).2) (h.deed d (hs d (.head _))) fun e he => hs e (.tail _ he)
   simp only [List.foldl_cons, List.length_cons]
   rw [show n + (ds.length + 1) = n + 1 + ds.length by omega]
   exact this
 exact this ds n ([], R) h hs
theorem q2e (R : Rn) (ds : List Deed) : (runD R ds).2.desks.length = R.desks.length ∧ (runD R ds).2.bound = R.bound := by
 unfold runD
 have : ∀ (ds : List Deed) (acc : List An × Rn), (ds.foldl (fun acc d => (acc.1 ++ [(q1c acc.2 d).1], (q1c acc.2 d).2)) acc).2.desks.length = acc.2.desks.length ∧ (ds.foldl (fun acc d => (acc.1 ++ [(q1c acc.2 d).1], (q1c acc.2 d).2)) acc).2.bound = acc.2.bound := by
  intro ds
  induction ds with
  | nil => exact fun acc => ⟨rfl, rfl⟩
  | cons d ds ih =>
   intro acc
   simp only [List.foldl_cons]
   have := ih (acc.1 ++ [(q1c acc.2 d).1], (q1c acc.2 d).2)
   have h2 := qag acc.2 d
   exact ⟨this.1.trans h2.1, this.2.trans h2.2⟩
 exact this ds ([], R)
end K08
end
section
namespace K08
open PySem L2
structure Stocks (H : Hp) (as : List Addr) (Ts : List Tb) : Prop where
 len : as.length = Ts.length
 at_ : ∀ (i : Nat) a T, as[i]? = some a → Ts[i]? = some T → H a = some (.dK T)
theorem Stocks.same {H H' : Hp} {as : List Addr} {Ts : List Tb} (h : Stocks H as Ts) (k : Kp [] H H') : Stocks H' as Ts := ⟨h.len, fun i a T e1 e2 => k.get (h.at_ i a T e1 e2) nEm⟩
structure StOk (Ts : List Tb) (n : Nat) : Prop where
 i : ∀ T ∈ Ts, q1q T
 l : ∀ T ∈ Ts, T.length ≤ n
 z : Ts.length ≤ 900
theorem q56 {Ts : List Tb} {n : Nat} {b : Int} (h : StOk Ts n) : RnOk (newR Ts b) n := by
 refine ⟨fun T F hm => ?_, by simp [newR], by simp [newR], by simp [newR], fun x => by simp [newR], fun x ss hm => by simp [newR] at hm, (fun k v e => by cases e), by simp [newR], fun x ss hm => by simp [newR] at hm, fun q hq => by simp [newR] at hq, fun x ss hm => by simp [newR] at hm⟩
 simp only [newR, List.mem_map] at hm
 obtain ⟨T', hT, e⟩ := hm
 cases e
 exact ⟨h.i T hT, (fun k v e => by cases e), h.l T hT, Nat.zero_le _⟩
section
variable {P : Program} {w : World} {K : PySem.W.Frag} {mg : Str → Option Value} {base : Heap}
def q8d (C Cd : Addr) : Sp := fun vs H Q _ => ∃ (r dx l : Addr) (b : Int) (as : List Addr) (Ts : List Tb) (H0 : Hp) (n : Nat), vs = [.ref r, .ref l, .int b] ∧ H r = some (.ins C dx []) ∧ Kp [] H0 H ∧ H0 r = none ∧ H l = some (.lst (as.map V.ref)) ∧ Stocks H as Ts ∧ StOk Ts n ∧
 ∀ H', RnAt C Cd H0 H' r (newR Ts b) n → Q .non H'
theorem q9f : FnScope ["self", "stocks", "bound"] ["self", "stocks", "bound"] (q03 qar) := ⟨rfl, rfl, rfl, by decide +kernel, rfl, by decide +kernel, by decide +kernel⟩
theorem qew {f C Cd : Addr} {fd : FuncData} (Fn : Fun K "__init__" "Runner.__init__" qar f fd) (T : TxtR K mg C) (DDesk : L2.Cd P w K mg base CX0 Cd 1 "Desk" ["self", "things"] (qf5 Cd)) : FnOk P w K mg base CX0 3 f fd ["self", "stocks", "bound"] (q8d C Cd) := by
 refine Fn.ok q9f (fun vs H Q E h => ?_) (fun cdv A outer sh H vs Q E hr h => ?_)
 ·obtain ⟨r, dx, l, b, as, Ts, H0, n, rfl, _⟩ := h
  rfl
 ·obtain ⟨r, dx, l, b, as, Ts, H0, n, rfl, hr0, kp0, h0r, hl, S, ok, k⟩ := h
  have nd := q9f.nd
  have hz := ok.z
  refine ⟨_, (q02 (q2v (pv 0) (q46 (NB := ["things"]) (ix := [none]) rfl ⟨rfl, rfl, by decide +kernel, by decide +kernel, trivial, rfl, rfl, rfl, trivial⟩ (q1j (pv 1)) (fun _ _ _ _ _ => (q10 (i := 0) (show (["things"] : List Str).Nodup by decide +kernel) rfl (Or.inl rfl))) (fun _ _ _ _ _ => q4x) (fun _ _ _ _ _ => (qgo DDesk (hr.mono (by decide)) q0m (q00 (pv 0) q04)))) rfl)
   (q02 (q2v (pv 0) (pv 2) rfl)
   (q02 (q2v (pv 0) q1p rfl)
   (q02 (q2v (pv 0) q3y rfl)
   (q02 (q2v (pv 0) q3y rfl)
   (q02 (q2v (pv 0) q3y rfl)
   (q06 (q2v (pv 0) (q1i q04) rfl)))))))), ?_⟩
  unfold tSeq sFld
  refine q77 (K := K) (a := l) (xs := as.map V.ref) rfl (SqL.of hl) fun D0 hD => ?_
  refine ⟨(fun i σ ys H2 => ∃ (v : Option V) (tg : Addr → Tg) (ps : List Addr), σ = [v] ∧ ys = ps.map V.ref ∧ ps.length = i ∧ Kp [] H H2 ∧ H2 D0 = some (.lst ys) ∧ (∀ b, H b ≠ none → tg b = .no) ∧ tg D0 = .dl ∧
   ∀ (j : Nat) p T, ps[j]? = some p → Ts[j]? = some T → tg p = .desk ∧ ∃ s d, DeskAt Cd H2 p s d T [] ∧ tg s = .stock j ∧ tg d = .fates j), ?_, ?_, ?_, ?_⟩
  ·refine ⟨none, (fun b => if b = D0 then .dl else .no), [], rfl, rfl, rfl, Kp.new hD, q05, fun c hc => if_neg fun z => hc (by rw [z]; exact hD), if_pos rfl, fun j p T e => by simp at e⟩
  ·rintro i σ ys H2 hi ⟨v, tg, ps, rfl, ey, el, kp, hy, _⟩
   exact ⟨SqL.of (kp.get hl nEm), hy⟩
  ·rintro i x σ ys H2 hx ⟨v, tg, ps, rfl, ey, el, kp, hy, tno, tD, hps⟩
   rw [List.getElem?_map] at hx
   cases ea : as[i]? with
   | none => rw [ea] at hx; cases hx
   | some a =>
    rw [ea] at hx
    obtain rfl : V.ref a = x := Option.some.inj hx
    have hi : i < Ts.length := by rw [← S.len]; exact (List.getElem?_eq_some_iff.mp ea).1
    have eT : Ts[i]? = some Ts[i] := List.getElem?_eq_getElem hi
    have ha := S.at_ i a _ ea eT
    have ha2 := kp.get ha nEm
    refine ⟨_, rfl, fun p dp hp hdp ndp => ⟨p, dp, a, Ts[i], rfl, q05, ?_, fun s d H6 hs6 hd6 D6 kp6 => ⟨rfl, ?_⟩⟩⟩
    ·rw [q08 (q09 ha2 hp), q08 (q09 ha2 hdp)]; exact ha2
    have kp26 : Kp [] H2 H6 := fun c o e _ => by
     have nb : c ≠ p := q09 e hp
     exact kp6 c o (by rw [q08 nb, q08 (q09 e hdp)]; exact e) (by simp [nb])
    obtain ⟨nsp, hs1⟩ := q1r hs6
    have hs2 := (q1r hs1).2
    obtain ⟨ndp', hd1⟩ := q1r hd6
    have hd2 := (q1r hd1).2
    have hy6 := kp26.get hy nEm
    have nsd := D6.sd
    have fr : ∀ {c : Addr} {o : HO}, H2 c = some o → (if c = p then Tg.desk else if c = s then .stock i else if c = d then .fates i else tg c) = tg c := fun {c o} e => by
     rw [if_neg (q09 e hp), if_neg (q09 e hs2), if_neg (q09 e hd2)]
    have kD : ∀ {H7 : Hp} {p' s' d' : Addr} {T' : Tb}, H7 D0 = some (.lst ys) → DeskAt Cd H7 p' s' d' T' [] → DeskAt Cd (upd H7 D0 (.lst (ys ++ [V.ref p]))) p' s' d' T' [] := fun {H7 p' s' d' T'} hy7 D7 => by
     obtain ⟨dq, hq⟩ := D7.ob
     exact D7.keep (ex := [D0]) (Kp.put (by simp)) (by simp; exact q3k hq hy7 (by intro z; cases z)) (by simp; exact q3k D7.st hy7 (by intro z; cases z)) (by simp; exact q3k D7.ft hy7 (by intro z; cases z))
    refine ⟨hy6, ?_, _, (fun c => if c = p then Tg.desk else if c = s then .stock i else if c = d then .fates i else tg c), ps ++ [p], rfl, ?_, by simp [el], ?_, q05, fun c hc => ?_, (fr hy).trans tD, fun j q T' e1 e2 => ?_⟩
    ·rw [ey, List.length_map, el]; exact q0u (by omega)
    ·rw [ey, List.map_append]; rfl
    ·intro c o e hn
     rw [q08 (q09 e hD)]
     exact (kp.trans kp26) c o e hn
    ·cases e : H c with
     | none => exact absurd e hc
     | some o => exact (fr (kp.get e nEm)).trans (tno c hc)
    ·by_cases hj : j < ps.length
     ·rw [List.getElem?_append_left hj] at e1
      obtain ⟨t1, s', d', D', t2, t3⟩ := hps j q T' e1 e2
      obtain ⟨dq, hq⟩ := D'.ob
      exact ⟨(fr hq).trans t1, s', d', kD hy6 (D'.same kp26), (fr D'.st).trans t2, (fr D'.ft).trans t3⟩
     ·have ej : j = ps.length := by
       have := (List.getElem?_eq_some_iff.mp e1).1
       simp at this
       omega
      subst ej
      rw [List.getElem?_append_right (Nat.le_refl _)] at e1
      simp at e1
      subst e1
      rw [el, eT] at e2
      obtain rfl : Ts[i] = T' := Option.some.inj e2
      rw [el]
      exact ⟨if_pos rfl, s, d, kD hy6 D6, by dsimp only; rw [if_neg nsp, if_pos rfl], by dsimp only; rw [if_neg ndp', if_neg (Ne.symm nsd), if_pos rfl]⟩
  rintro σ ys H1 ⟨v, tg, ps, rfl, ey, el, kp1, hy, tno, tD, hps⟩
  subst ey
  have hr1 := kp1.get hr0 nEm
  refine ⟨_, rfl, r, C, dx, _, rfl, hr1, T.cl, T.nDesks, (by show 0 < 1000; decide), ?_⟩
  refine ⟨_, rfl, _, rfl, r, C, dx, _, rfl, q05, T.cl, T.nBound, (by show 1 < 1000; decide), ?_⟩
  refine ⟨_, rfl, r, C, dx, _, rfl, q05, T.cl, T.nUp, (by show 2 < 1000; decide), ?_⟩
  rw [q8o, q8o]
  refine fun wd hwd => ⟨_, rfl, r, C, dx, _, rfl, (Kp.new (ex := []) hwd).get q05 nEm, T.cl, T.nWorks, (by show 3 < 1000; decide), ?_⟩
  refine abs (fun H2 => Kp [r] H1 H2 ∧ H2 r = some (.ins C dx (putF "works" (.ref wd) (putF "up" (.bl true) (putF "bound" (.int b) (putF "desks" (.ref D0) []))))) ∧ H2 wd = some (.dK []) ∧ H1 wd = none ∧ wd ≠ r) ⟨?_, q05, ?_, ?_, ?_⟩ ?_
  ·exact ((Kp.put (by simp)).trans (Kp.new hwd)).trans (Kp.put (by simp))
  ·rw [q08 (q1r hwd).1, q05]
  ·exact (q1r hwd).2
  ·exact (q1r hwd).1
  clear hwd
  rintro H2 ⟨kp2, hr2, hwd2, hwd1, nwr⟩
  refine fun td htd => ⟨_, rfl, r, C, dx, _, rfl, (Kp.new (ex := []) htd).get hr2 nEm, T.cl, T.nTrails, (by show 4 < 1000; decide), ?_⟩
  have ntr' : td ≠ r := fun z => by rw [z, hr2] at htd; cases htd
  have ntw : td ≠ wd := fun z => by rw [z, hwd2] at htd; cases htd
  refine abs (fun H3 => Kp [r] H2 H3 ∧ H3 r = some (.ins C dx (putF "trails" (.ref td) (putF "works" (.ref wd) (putF "up" (.bl true) (putF "bound" (.int b) (putF "desks" (.ref D0) [])))))) ∧ H3 td = some (.dK [])) ⟨(Kp.new htd).trans (Kp.put (by simp)), q05, by rw [q08 ntr', q05]⟩ ?_
  rintro H3 ⟨kp3, hr3, htd3⟩
  have hwd3 := kp3.get hwd2 (by simp [nwr])
  refine fun tr htr => ⟨_, rfl, r, C, dx, _, rfl, (Kp.new (ex := []) htr).get hr3 nEm, T.cl, T.nTries, (by show 5 < 1000; decide), ?_⟩
  have nrr : tr ≠ r := fun z => by rw [z, hr3] at htr; cases htr
  have nrw : tr ≠ wd := fun z => by rw [z, hwd3] at htr; cases htr
  have nrt : tr ≠ td := fun z => by rw [z, htd3] at htr; cases htr
  refine abs (fun H4 => Kp [r] H3 H4 ∧ H4 r = some (.ins C dx (putF "tries" (.ref tr) (putF "trails" (.ref td) (putF "works" (.ref wd) (putF "up" (.bl true) (putF "bound" (.int b) (putF "desks" (.ref D0) []))))))) ∧ H4 tr = some (.dK [])) ⟨(Kp.new htr).trans (Kp.put (by simp)), q05, by rw [q08 nrr, q05]⟩ ?_
  rintro H4 ⟨kp4, hr4, htr4⟩
  have hwd4 := kp4.get hwd3 (by simp [nwr])
  have htd4 := kp4.get htd3 (by simp [ntr'])
  refine ⟨(by show 0 ≤ sizeLine; decide), fun lo hlo => ⟨_, rfl, r, C, dx, _, rfl, (Kp.new (ex := []) hlo).get hr4 nEm, T.cl, T.nLost, (by show 6 < 1000; decide), ?_⟩⟩
  have nlr : lo ≠ r := fun z => by rw [z, hr4] at hlo; cases hlo
  have nlw : lo ≠ wd := fun z => by rw [z, hwd4] at hlo; cases hlo
  have nlt : lo ≠ td := fun z => by rw [z, htd4] at hlo; cases hlo
  have nlt' : lo ≠ tr := fun z => by rw [z, htr4] at hlo; cases hlo
  refine abs (fun H5 => Kp [r] H4 H5 ∧ H5 r = some (.ins C dx (q29 D0 b true wd td tr lo)) ∧ H5 lo = some (.lst [])) ⟨(Kp.new hlo).trans (Kp.put (by simp)), q05, by rw [q08 nlr, q05]⟩ ?_
  rintro H5 ⟨kp5, hr5, hlo5⟩
  have kp15 : Kp [r] H1 H5 := ((kp2.trans kp3).trans kp4).trans kp5
  have hwd5 := kp5.get hwd4 (by simp [nwr])
  have htd5 := kp5.get htd4 (by simp [ntr'])
  have htr5 := kp5.get htr4 (by simp [nrr])
  have htd1 : H1 td = none := by
   cases e : H1 td with
   | none => rfl
   | some o => have := kp2.get e (by simp [ntr']); rw [htd] at this; cases this
  have htr1 : H1 tr = none := by
   cases e : H1 tr with
   | none => rfl
   | some o => have := (kp2.trans kp3).get e (by simp [nrr]); rw [htr] at this; cases this
  have hlo1 : H1 lo = none := by
   cases e : H1 lo with
   | none => rfl
   | some o => have := ((kp2.trans kp3).trans kp4).get e (by simp [nlr]); rw [hlo] at this; cases this
  have nDr : D0 ≠ r := q3k hy hr1 (by intro z; cases z)
  have fr : ∀ {c : Addr} {o : HO}, H1 c = some o → c ≠ r → (if c = r then Tg.run else if c = wd then .works else if c = td then .trails else if c = tr then .tries else if c = lo then .lost else tg c) = tg c := fun {c o} e n => by
   rw [if_neg n, if_neg (q09 e hwd1), if_neg (q09 e htd1), if_neg (q09 e htr1), if_neg (q09 e hlo1)]
  have el' : ps.length = Ts.length := by rw [el, List.length_map, S.len]
  refine k H5 ⟨q56 ok, (fun c => if c = r then Tg.run else if c = wd then .works else if c = td then .trails else if c = tr then .tries else if c = lo then .lost else tg c), D0, wd, td, tr, lo, ps, (fun _ => 0), (fun _ => 0), ?_⟩
  refine ⟨fun c o e _ => ?_, fun c o e => ?_, if_pos rfl, fun _ => ⟨dx, hr5⟩, (fr hy nDr).trans tD, fun _ => kp15.get hy (by simp [nDr]), ?_, fun i p T' F' e1 e2 _ _ _ => ?_, ?_, fun _ => hwd5, fun x ss hm => by simp [newR] at hm, ?_, fun _ => htd5, fun x ss hm => by simp [newR] at hm, ?_, fun _ => htr5, ?_, fun _ => ⟨[], hlo5, ⟨rfl, fun i a q e => by simp at e⟩⟩⟩
  ·have ncr : c ≠ r := fun z => by rw [z, h0r] at e; cases e
   exact kp15.get (kp1.get (kp0.get e (by simp)) nEm) (by simp [ncr])
  ·have ncr : c ≠ r := fun z => by rw [z, h0r] at e; cases e
   have eH := kp0.get e nEm
   exact (fr (kp1.get eH nEm) ncr).trans (tno c (by rw [eH]; simp))
  ·rw [el']; simp [newR]
  ·have e2' : (Ts.map fun T => (T, ([] : Fb)))[i]? = some (T', F') := e2
   rw [List.getElem?_map] at e2'
   cases e3 : Ts[i]? with
   | none => rw [e3] at e2'; cases e2'
   | some T0 =>
    rw [e3] at e2'
    cases e2'
    obtain ⟨t1, s, d, D, t2, t3⟩ := hps i p _ e1 e3
    obtain ⟨dq, hq⟩ := D.ob
    have n1 : p ≠ r := fun z => by
     have hrt : tg r = .no := tno r (by rw [hr0]; simp)
     rw [← z, t1] at hrt
     cases hrt
    have n2 : s ≠ r := q3k D.st hr1 (by intro z; cases z)
    have n3 : d ≠ r := q3k D.ft hr1 (by intro z; cases z)
    exact ⟨(fr hq n1).trans t1, s, d, D.keep kp15 (by simp [n1]) (by simp [n2]) (by simp [n3]), (fr D.st n2).trans t2, (fr D.ft n3).trans t3⟩
  ·rw [if_neg nwr, if_pos rfl]
  ·rw [if_neg ntr', if_neg ntw, if_pos rfl]
  ·rw [if_neg nrr, if_neg nrw, if_neg nrt, if_pos rfl]
  ·rw [if_neg nlr, if_neg nlw, if_neg nlt, if_neg nlt', if_pos rfl]
end
end K08
end
section
namespace K08
open PySem L2
def q4t (R : Rn) : Deed → Option Bool
 | .start _ ss => if (ss.all fun s => inD R s.d) = true then none else some false
 | .go x _ => if goNo R x = true then some true else none
 | .fill d _ _ => if inD R d = true then none else some false
 | _ => none
theorem q9v {R : Rn} {d : Deed} (h : q4t R d = some false) : q1c R d = (.str "no desk", R) := by
 cases d with
 | start x ss =>
  have h' : (if (ss.all fun s => inD R s.d) = true then none else some false) = some false := h
  split at h'
  ·cases h'
  ·rename_i hn
   show q2b R x ss = _
   unfold q2b
   rw [if_neg hn]
 | go x luck =>
  have h' : (if goNo R x = true then some true else none) = some false := h
  split at h' <;> cases h'
 | fill d x n =>
  have h' : (if inD R d = true then none else some false) = some false := h
  split at h'
  ·cases h'
  ·rename_i hn
   show q2t R d x n = _
   unfold q2t
   rw [if_neg hn]
 | _ => cases h
theorem q9u {R : Rn} {d : Deed} (h : q4t R d = some true) : q1c R d = (.str "no work", R) := by
 cases d with
 | go x luck =>
  have h' : (if goNo R x = true then some true else none) = some true := h
  split at h'
  ·rename_i hn
   unfold goNo at hn
   rw [Bool.and_eq_true] at hn
   show goM R x luck = _
   unfold goM
   rw [if_neg (by rw [hn.1]; simp), Option.isNone_iff_eq_none.mp hn.2]
  ·cases h'
 | start x ss =>
  have h' : (if (ss.all fun s => inD R s.d) = true then none else some false) = some true := h
  split at h' <;> cases h'
 | fill d x n =>
  have h' : (if inD R d = true then none else some false) = some true := h
  split at h' <;> cases h'
 | _ => cases h
section
variable {P : Program} {w : World} {K : PySem.W.Frag} {mg : Str → Option Value} {base : Heap}
def qfq (C Cd CN CW : Addr) : Sp := fun vs H Q E => ∃ (r a : Addr) (d : Deed) (H0 : Hp) (R : Rn) (n : Nat), vs = [.ref r, .ref a] ∧ q1y H a d ∧ RnAt C Cd H0 H r R n ∧ R.desks.length ≤ 900 ∧ n ≤ 870 ∧
 (q4t R d = none → ∀ v H', RnAt C Cd H0 H' r (q1c R d).2 (n + 1) → TK H H' → AnV H' v (q1c R d).1 → Q v H') ∧ (q4t R d = some false → E (.ref CN) none H) ∧ (q4t R d = some true → E (.ref CW) none H)
theorem qbg : FnScope ["runner", "deed"] ["runner", "deed"] (q03 q8b) := ⟨rfl, rfl, rfl, by decide +kernel, rfl, by decide +kernel, by decide +kernel⟩
theorem qgh {f C Cd CN CW : Addr} {fd : FuncData} (Fn : Fun K "done" "done" q8b f fd) (DRunner_start : Md P w K mg base (CX1 P w) C 2 "start" ["self", "name", "steps"] (qb9 C Cd CN)) (DRunner_go : Md P w K mg base (CX1 P w) C 8 "go" ["self", "name", "luck"] (spGo C Cd CW))
  (DRunner_late : Md P w K mg base CX0 C 6 "late" ["self", "which"] (qez C Cd)) (DRunner_fill : Md P w K mg base (CX1 P w) C 3 "fill" ["self", "number", "thing", "many"] (qf2 C Cd CN)) (DRunner_stop : Md P w K mg base CX0 C 1 "stop" ["self"] (q9h C Cd .stop)) (DRunner_wake : Md P w K mg base CX0 C 1 "wake" ["self"] (q9h C Cd .wake)) :
  FnOk P w K mg base (CX1 P w) 9 f fd ["runner", "deed"] (qfq C Cd CN CW) := by
 refine Fn.okX qbg (fun vs H Q E h => ?_) (fun cdv A outer s H vs Q E hr h => ?_)
 ·obtain ⟨r, a, d, H0, R, n, rfl, _⟩ := h
  rfl
 ·obtain ⟨r, a, d, H0, R, n, rfl, hd, I, hz, hn, k1, k2, k3⟩ := h
  have nd := qbg.nd
  have fx := q3n (CX := CX1 P w) (P := P) (w := w) (K := K) (mg := mg) (base := base) (N := ["runner", "deed"]) (qual := "done") (scope := q03 q8b) (f := f) (cd := cdv) (A := A) (outer := outer) (s := s) (H := H) (E := E)
  obtain ⟨tg, dl, wd, td, tr, lo, ps, wa, ta, Pp⟩ := I.ex
  obtain ⟨dx, ho⟩ := Pp.ob rfl
  have hs : ∀ x ss, d = .start x ss → ss.length ≤ 1000 := fun x ss e => by
   subst e
   obtain ⟨l, as, _, _, _, h4⟩ := hd
   omega
  have okd := I.ok.deed d hs
  have sne : ∀ {x y : Str}, x ≠ y → ¬ (V.str x = V.str y) := fun h z => h (V.str.inj z)
  refine ⟨_, (q15 (q7i (q0h q23 (q0j q0i (pv 1) q01 (fun _ _ => rfl)) q0e (q0q _))
   (q1m (q6v (q7t fx DRunner_start (hr.mono (by decide)) (pv 0) (q00 (q0j q0i (pv 1) q01 (fun _ _ => rfl)) (q00 (q0j q0i (pv 1) q01 (fun _ _ => rfl)) q04)))))
   (q58 q0b))
   (q15 (q7i (q0h q23 (q0j q0i (pv 1) q01 (fun _ _ => rfl)) q0e (q0q _))
   (q1m (q6v (q7t fx DRunner_go (hr.mono (by decide)) (pv 0) (q00 (q0j q0i (pv 1) q01 (fun _ _ => rfl)) (q00 (q0j q0i (pv 1) q01 (fun _ _ => rfl)) q04)))))
   (q58 q0b))
   (q15 (q2q (q0w (q0h q23 (q0j q0i (pv 1) q01 (fun _ _ => rfl)) q0e (q0q _))
   (q06 (q0a (q31 DRunner_late (hr.mono (by decide)) q0m (pv 0) (q00 (q0j q0i (pv 1) q01 (fun _ _ => rfl)) q04))))
   q0b))
   (q15 (q7i (q0h q23 (q0j q0i (pv 1) q01 (fun _ _ => rfl)) q0e (q0q _))
   (q1m (q6v (q7t fx DRunner_fill (hr.mono (by decide)) (pv 0) (q00 (q0j q0i (pv 1) q01 (fun _ _ => rfl)) (q00 (q0j q0i (pv 1) q01 (fun _ _ => rfl)) (q00 (q0j q0i (pv 1) q01 (fun _ _ => rfl)) q04))))))
   (q58 q0b))
   (q15 (q2q (q0w (q0h q23 (q0j q0i (pv 1) q01 (fun _ _ => rfl)) q0e (q0q _))
   (q06 (q0a (qf0 DRunner_stop (hr.mono (by decide)) q0m (pv 0))))
   q0b))
   (q1m (q2q (q0a (qf0 DRunner_wake (hr.mono (by decide)) q0m (pv 0)))))))))), ?_⟩
  cases d with
  | start x ss =>
   obtain ⟨l, as, h1, h2, h3, h4⟩ := hd
   refine ⟨_, rfl, a, _, _, _, rfl, rfl, SqT.of h1, q07 (j := 0) rfl, rfl, _, rfl, iteD rfl ?_⟩
   refine ⟨_, rfl, r, dx, _, rfl, ho, q49 (by decide +kernel), _, rfl, a, _, _, _, rfl, rfl, SqT.of h1, q07 (j := 1) rfl, _, rfl, a, _, _, _, rfl, rfl, SqT.of h1, q07 (j := 2) rfl,
    r, l, x, as, ss, H0, R, n, rfl, h2, h3, h4, I, hz, by omega, fun ha v H' I' tk an => ?_, fun ha => ?_⟩
   ·exact k1 (if_pos ha) v H' ⟨okd, I'.ex⟩ tk an
   ·exact k2 (if_neg (by rw [ha]; simp))
  | go x luck =>
   have h1 : H a = some (.tup [.str "go", .str x, .str luck]) := hd
   refine ⟨_, rfl, a, _, _, _, rfl, rfl, SqT.of h1, q07 (j := 0) rfl, rfl, _, rfl, q1o (sne (by decide +kernel)) ?_⟩
   refine ⟨_, rfl, a, _, _, _, rfl, rfl, SqT.of h1, q07 (j := 0) rfl, rfl, _, rfl, iteD rfl ?_⟩
   refine ⟨_, rfl, r, dx, _, rfl, ho, q49 (by decide +kernel), _, rfl, a, _, _, _, rfl, rfl, SqT.of h1, q07 (j := 1) rfl, _, rfl, a, _, _, _, rfl, rfl, SqT.of h1, q07 (j := 2) rfl,
    r, x, luck, H0, R, n, rfl, I, hz, by omega, fun hg v H' I' tk an => ?_, fun hg => ?_⟩
   ·exact k1 (if_neg (by rw [hg]; simp)) v H' ⟨okd, I'.ex⟩ tk an
   ·exact k3 (if_pos hg)
  | late i =>
   have h1 : H a = some (.tup [.str "late", .int i]) := hd
   refine ⟨_, rfl, a, _, _, _, rfl, rfl, SqT.of h1, q07 (j := 0) rfl, rfl, _, rfl, q1o (sne (by decide +kernel)) ?_⟩
   refine ⟨_, rfl, a, _, _, _, rfl, rfl, SqT.of h1, q07 (j := 0) rfl, rfl, _, rfl, q1o (sne (by decide +kernel)) ?_⟩
   refine ⟨_, rfl, a, _, _, _, rfl, rfl, SqT.of h1, q07 (j := 0) rfl, rfl, _, rfl, iteD rfl ?_⟩
   refine ⟨_, rfl, r, dx, _, rfl, ho, q49 (by decide +kernel), _, rfl, a, _, _, _, rfl, rfl, SqT.of h1, q07 (j := 1) rfl, r, i, H0, R, n, rfl, I, hz, by omega, fun v H' I' tk an => ?_⟩
   exact k1 rfl v H' ⟨okd, I'.ex⟩ tk an
  | fill d x m =>
   have h1 : H a = some (.tup [.str "fill", .int d, .str x, .int m]) := hd
   refine ⟨_, rfl, a, _, _, _, rfl, rfl, SqT.of h1, q07 (j := 0) rfl, rfl, _, rfl, q1o (sne (by decide +kernel)) ?_⟩
   refine ⟨_, rfl, a, _, _, _, rfl, rfl, SqT.of h1, q07 (j := 0) rfl, rfl, _, rfl, q1o (sne (by decide +kernel)) ?_⟩
   refine ⟨_, rfl, a, _, _, _, rfl, rfl, SqT.of h1, q07 (j := 0) rfl, rfl, _, rfl, q1o (sne (by decide +kernel)) ?_⟩
   refine ⟨_, rfl, a, _, _, _, rfl, rfl, SqT.of h1, q07 (j := 0) rfl, rfl, _, rfl, iteD rfl ?_⟩
   refine ⟨_, rfl, r, dx, _, rfl, ho, q49 (by decide +kernel), _, rfl, a, _, _, _, rfl, rfl, SqT.of h1, q07 (j := 1) rfl, _, rfl, a, _, _, _, rfl, rfl, SqT.of h1, q07 (j := 2) rfl, _, rfl, a, _, _, _, rfl, rfl, SqT.of h1, q07 (j := 3) rfl,
    r, d, x, m, H0, R, n, rfl, I, hz, by omega, fun hi H' I' tk => ?_, fun hi => ?_⟩
   ·refine k1 (if_pos hi) _ H' ⟨okd, I'.ex⟩ tk ?_
    obtain ⟨i, rfl, T, F, eT⟩ := qbd hi
    show AnV H' (.bl true) (q2t R i x m).1
    unfold q2t
    rw [if_pos hi, Int.toNat_natCast, eT]
    rfl
   ·exact k2 (if_neg (by rw [hi]; simp))
  | stop =>
   have h1 : H a = some (.tup [.str "stop"]) := hd
   refine ⟨_, rfl, a, _, _, _, rfl, rfl, SqT.of h1, q07 (j := 0) rfl, rfl, _, rfl, q1o (sne (by decide +kernel)) ?_⟩
   refine ⟨_, rfl, a, _, _, _, rfl, rfl, SqT.of h1, q07 (j := 0) rfl, rfl, _, rfl, q1o (sne (by decide +kernel)) ?_⟩
   refine ⟨_, rfl, a, _, _, _, rfl, rfl, SqT.of h1, q07 (j := 0) rfl, rfl, _, rfl, q1o (sne (by decide +kernel)) ?_⟩
   refine ⟨_, rfl, a, _, _, _, rfl, rfl, SqT.of h1, q07 (j := 0) rfl, rfl, _, rfl, q1o (sne (by decide +kernel)) ?_⟩
   refine ⟨_, rfl, a, _, _, _, rfl, rfl, SqT.of h1, q07 (j := 0) rfl, rfl, _, rfl, iteD rfl ?_⟩
   refine ⟨_, rfl, r, dx, _, rfl, ho, q49 (by decide +kernel), r, H0, R, n, rfl, I, fun v H' I' tk an => ?_⟩
   exact k1 rfl v H' ⟨okd, I'.ex⟩ tk an
  | wake =>
   have h1 : H a = some (.tup [.str "wake"]) := hd
   refine ⟨_, rfl, a, _, _, _, rfl, rfl, SqT.of h1, q07 (j := 0) rfl, rfl, _, rfl, q1o (sne (by decide +kernel)) ?_⟩
   refine ⟨_, rfl, a, _, _, _, rfl, rfl, SqT.of h1, q07 (j := 0) rfl, rfl, _, rfl, q1o (sne (by decide +kernel)) ?_⟩
   refine ⟨_, rfl, a, _, _, _, rfl, rfl, SqT.of h1, q07 (j := 0) rfl, rfl, _, rfl, q1o (sne (by decide +kernel)) ?_⟩
   refine ⟨_, rfl, a, _, _, _, rfl, rfl, SqT.of h1, q07 (j := 0) rfl, rfl, _, rfl, q1o (sne (by decide +kernel)) ?_⟩
   refine ⟨_, rfl, a, _, _, _, rfl, rfl, SqT.of h1, q07 (j := 0) rfl, rfl, _, rfl, q1o (sne (by decide +kernel)) ?_⟩
   refine ⟨_, rfl, r, dx, _, rfl, ho, q49 (by decide +kernel), r, H0, R, n, rfl, I, fun v H' I' tk an => ?_⟩
   exact k1 rfl v H' ⟨okd, I'.ex⟩ tk an
def q3x (C Cd : Addr) : Sp := fun vs H Q _ => ∃ (r a : Addr) (d : Deed) (H0 : Hp) (R : Rn) (n : Nat), vs = [.ref r, .ref a] ∧ q1y H a d ∧ RnAt C Cd H0 H r R n ∧ R.desks.length ≤ 900 ∧ n ≤ 870 ∧
 ∀ v H', RnAt C Cd H0 H' r (q1c R d).2 (n + 1) → TK H H' → AnV H' v (q1c R d).1 → Q v H'
theorem q76 : FnScope ["runner", "deed"] ["runner", "deed"] (q03 q3q) := ⟨rfl, rfl, rfl, by decide +kernel, rfl, by decide +kernel, by decide +kernel⟩
theorem qbm {f C Cd CN CW : Addr} {fd : FuncData} (Fn : Fun K "answer" "answer" q3q f fd) (Ddone : Df P w K mg base (CX1 P w) 9 "done" ["runner", "deed"] (qfq C Cd CN CW)) (g_NoDesk : mg "NoDesk" = some (.ref CN)) (Z_NoDesk : XCls K CN) (g_NoWork : mg "NoWork" = some (.ref CW)) (Z_NoWork : XCls K CW)
  (m_D : PySem.W.mroIn K CN (.ref CN) = some true) (m_WD : PySem.W.mroIn K CW (.ref CN) = some false) (m_W : PySem.W.mroIn K CW (.ref CW) = some true) : FnOk P w K mg base (CX1 P w) 10 f fd ["runner", "deed"] (q3x C Cd) := by
 refine Fn.okX q76 (fun vs H Q E h => ?_) (fun cdv A outer s H vs Q E hr h => ?_)
 ·obtain ⟨r, a, d, H0, R, n, rfl, _⟩ := h
  rfl
 ·obtain ⟨r, a, d, H0, R, n, rfl, hd, I, hz, hn, k⟩ := h
  have nd := q76.nd
  have fx := q3n (CX := CX1 P w) (P := P) (w := w) (K := K) (mg := mg) (base := base) (N := ["runner", "deed"]) (qual := "answer") (scope := q03 q3q) (f := f) (cd := cdv) (A := A) (outer := outer) (s := s) (H := H) (E := E)
  refine ⟨_, (q1m (qhk fx (q1m (q6v (qhz fx Ddone (hr.mono (by decide)) (q00 (pv 0) (q00 (pv 1) q04)))))
   (q90 fx g_NoDesk Z_NoDesk (fun ea => (q06 (q0a q0e))) (q90 fx g_NoWork Z_NoWork (fun ea => (q06 (q0a q0e))) qht)))), ?_⟩
  refine ⟨_, rfl, _, rfl, r, a, d, H0, R, n, rfl, hd, I, hz, hn, fun _ v H' I' tk an => k v H' I' tk an, fun h => ?_, fun h => ?_⟩
  ·refine ⟨CN, rfl, Z_NoDesk, true, m_D, iteT fun _ => ?_⟩
   have := k (.str "no desk") H
   rw [q9v h] at this
   exact this (I.mono (by omega)) (TK.refl H) rfl
  ·refine ⟨CW, rfl, Z_NoWork, false, m_WD, iteF ⟨Z_NoWork, true, m_W, iteT fun _ => ?_⟩⟩
   have := k (.str "no work") H
   rw [q9u h] at this
   exact this (I.mono (by omega)) (TK.refl H) rfl
theorem q8k {C Cd f : Addr} {fd : FuncData} {k : Nat} {ps : List Str} (F : FnOk P w K mg base (CX1 P w) k f fd ps (q3x C Cd)) : FnOk P w K mg base CX0 k f fd ps (q3x C Cd) := F.calm fun vs H Q E h => h
structure AnVs (H : Hp) (vs : List V) (as : List An) : Prop where
 len : vs.length = as.length
 at_ : ∀ (i : Nat) v a, vs[i]? = some v → as[i]? = some a → AnV H v a
theorem AnVs.tk {H H' : Hp} {vs : List V} {as : List An} (h : AnVs H vs as) (k : TK H H') : AnVs H' vs as := ⟨h.len, fun i v a e1 e2 => (h.at_ i v a e1 e2).tk k⟩
theorem AnVs.snoc {H : Hp} {vs : List V} {as : List An} {v : V} {a : An} (h : AnVs H vs as) (hv : AnV H v a) : AnVs H (vs ++ [v]) (as ++ [a]) := by
 refine ⟨by simp [h.len], fun i u b e1 e2 => ?_⟩
 by_cases hi : i < vs.length
 ·rw [List.getElem?_append_left hi] at e1
  rw [List.getElem?_append_left (by rw [← h.len]; exact hi)] at e2
  exact h.at_ i u b e1 e2
 ·have e : i = vs.length := by
   have := (List.getElem?_eq_some_iff.mp e1).1
   simp at this
   omega
  subst e
  rw [List.getElem?_append_right (Nat.le_refl _)] at e1
  rw [h.len, List.getElem?_append_right (Nat.le_refl _)] at e2
  simp at e1 e2
  subst e1 e2
  exact hv
structure StoryIn (H : Hp) (l ld : Addr) (as : List Addr) (Ts : List Tb) (ad : List Addr) (ds : List Deed) (n : Nat) : Prop where
 hl : H l = some (.lst (as.map V.ref))
 S : Stocks H as Ts
 ok : StOk Ts n
 hd : H ld = some (.lst (ad.map V.ref))
 D : Deeds H ad ds
 z : n + ds.length ≤ 860
def q6y (C Cd : Addr) : Sp := fun vs H Q _ => ∃ (l ld : Addr) (b : Int) (as : List Addr) (Ts : List Tb) (ad : List Addr) (ds : List Deed) (n : Nat), vs = [.ref l, .int b, .ref ld] ∧ StoryIn H l ld as Ts ad ds n ∧
 ∀ p us H', H p = none → H' p = some (.lst us) → AnVs H' us (runD (newR Ts b) ds).1 → Kp [] H H' → Q (.ref p) H'
theorem q5j : FnScope ["stocks", "bound", "deeds", "runner"] ["stocks", "bound", "deeds"] (q03 q3c) := ⟨rfl, rfl, rfl, by decide +kernel, rfl, by decide +kernel, by decide +kernel⟩
theorem qas {f C Cd : Addr} {fd : FuncData} (Fn : Fun K "answers" "answers" q3c f fd) (DRunner : L2.Cd P w K mg base CX0 C 3 "Runner" ["self", "stocks", "bound"] (q8d C Cd)) (Danswer : Df P w K mg base CX0 10 "answer" ["runner", "deed"] (q3x C Cd)) : FnOk P w K mg base CX0 11 f fd ["stocks", "bound", "deeds"] (q6y C Cd) := by
 refine Fn.ok q5j (fun vs H Q E h => ?_) (fun cdv A outer s H vs Q E hr h => ?_)
 ·obtain ⟨l, ld, b, as, Ts, ad, ds, n, rfl, _⟩ := h
  rfl
 ·obtain ⟨l, ld, b, as, Ts, ad, ds, n, rfl, SI, k⟩ := h
  have nd := q5j.nd
  have hz := SI.z
  refine ⟨_, (q02 (q0r (i := 3) nd rfl (Or.inr rfl) (qgo DRunner (hr.mono (by decide)) q0m (q00 (pv 0) (q00 (pv 1) q04))))
   (q06 (q0a (q46 (NB := ["deed", "runner"]) (ix := [none, some 3]) rfl ⟨rfl, rfl, by decide +kernel, by decide +kernel, ⟨rfl, trivial⟩, rfl, rfl, rfl, ⟨⟨rfl, .inl rfl, .inl rfl, rfl⟩, trivial⟩⟩ (q1j (pv 2)) (fun _ _ _ _ _ => (q10 (i := 0) (show (["deed", "runner"] : List Str).Nodup by decide +kernel) rfl (Or.inl rfl))) (fun _ _ _ _ _ => q4x) (fun _ _ _ _ _ => (q0z Danswer (hr.mono (by decide)) q0m (q00 (pv 1) (q00 (pv 0) q04)))))))), ?_⟩
  refine ⟨_, rfl, _, rfl, fun r dx hr0 hdx ndr => ?_⟩
  have kp1 : Kp [] H (upd (upd H dx (.own r)) r (.ins C dx [])) := fun c o e _ => by rw [q08 (q09 e hr0), q08 (q09 e hdx)]; exact e
  refine ⟨r, dx, l, b, as, Ts, H, n, rfl, q05, kp1, hr0, kp1.get SI.hl nEm, SI.S.same kp1, SI.ok, fun H2 I2 => ⟨rfl, ?_⟩⟩
  have nl := q56 SI.ok (b := b)
  have ld2 : (newR Ts b).desks.length ≤ 900 := by simp [newR]; exact SI.ok.z
  generalize hR : newR Ts b = R0 at I2 k nl ld2
  refine ⟨_, rfl, ld, rfl, ⟨_, SqL.of (I2.kp.get SI.hd nEm)⟩, fun D0 hD => ?_⟩
  have hDH : H D0 = none := by
   cases e : H D0 with
   | none => rfl
   | some o => have := I2.kp.get e nEm; rw [hD] at this; cases this
  refine q32 (xs := ad.map V.ref) (fun i σ ys H3 => ∃ v : Option V, σ = [v, some (.ref r)] ∧ RnAt C Cd (upd H D0 (.lst ys)) H3 r (runD R0 (ds.take i)).2 (n + i) ∧ AnVs H3 ys (runD R0 (ds.take i)).1) ?_ ?_ ?_ ?_
  ·exact ⟨none, rfl, I2.new hD, ⟨rfl, fun i v a e => by simp at e⟩⟩
  ·rintro i σ ys H3 hi ⟨v, rfl, I3, _⟩
   refine ⟨SqL.of (I3.kp.get ?_ (by simp)), I3.kp.get q05 nEm⟩
   rw [q08 (q09 SI.hd hDH)]; exact SI.hd
  ·rintro i x σ ys H3 hx ⟨v, rfl, I3, AV⟩
   rw [List.getElem?_map] at hx
   cases ea : ad[i]? with
   | none => rw [ea] at hx; cases hx
   | some a =>
    rw [ea] at hx
    obtain rfl : V.ref a = x := Option.some.inj hx
    have hi : i < ds.length := by rw [← SI.D.len]; exact (List.getElem?_eq_some_iff.mp ea).1
    have ed : ds[i]? = some ds[i] := List.getElem?_eq_getElem hi
    have kpD : Kp [] H (upd H D0 (.lst ys)) := Kp.new hDH
    have hdA := ((SI.D.at_ i a _ ea ed).same kpD).same I3.kp
    have eR := q26 R0 (ds.take i) ds[i]
    rw [← q2p ed] at eR
    have hdl : (runD R0 (ds.take i)).2.desks.length ≤ 900 := by rw [(q2e R0 _).1]; exact ld2
    refine ⟨_, rfl, _, rfl, r, a, ds[i], _, _, n + i, rfl, hdA, I3, hdl, by omega, fun v' H4 I4 tk an => ?_⟩
    have hD4 : H4 D0 = some (.lst ys) := I4.kp.get q05 nEm
    refine ⟨hD4, ?_, _, rfl, ?_, ?_⟩
    ·rw [AV.len, q8r, List.length_take]
     exact q0u (by omega)
    ·rw [eR]
     have := I4.frame (o' := .lst (ys ++ [v'])) (q05 (H := H) (a := D0) (o := .lst ys)) (fun ys z => by cases z)
     rw [q8o] at this
     exact this
    ·rw [eR]
     refine ((AV.tk tk).snoc an).tk (Kp.tk (xs := [D0]) (Kp.put (by simp)) fun c hc ys' e => ?_)
     simp at hc
     subst hc
     rw [hD4] at e
     cases e
  ·rintro σ ys H3 ⟨v, rfl, I3, AV⟩
   have e : ds.take (ad.map V.ref).length = ds := by rw [List.length_map, SI.D.len, List.take_length]
   rw [e] at AV
   exact k D0 ys H3 hDH (I3.kp.get q05 nEm) AV ((Kp.new hDH).trans I3.kp)
def q57 (C Cd : Addr) : Sp := fun vs H Q _ => ∃ (l ld : Addr) (b : Int) (as : List Addr) (Ts : List Tb) (ad : List Addr) (ds : List Deed) (n : Nat), vs = [.ref l, .int b, .ref ld] ∧ StoryIn H l ld as Ts ad ds n ∧
 ∀ r H', RnAt C Cd H H' r (runD (newR Ts b) ds).2 (n + ds.length) → Q (.ref r) H'
theorem q8x : FnScope ["stocks", "bound", "deeds", "runner", "deed"] ["stocks", "bound", "deeds"] (q03 q68) := ⟨rfl, rfl, rfl, by decide +kernel, rfl, by decide +kernel, by decide +kernel⟩
theorem qe7 {f C Cd : Addr} {fd : FuncData} (Fn : Fun K "runner_after" "runner_after" q68 f fd) (DRunner : L2.Cd P w K mg base CX0 C 3 "Runner" ["self", "stocks", "bound"] (q8d C Cd)) (Danswer : Df P w K mg base CX0 10 "answer" ["runner", "deed"] (q3x C Cd)) : FnOk P w K mg base CX0 11 f fd ["stocks", "bound", "deeds"] (q57 C Cd) := by
 refine Fn.ok q8x (fun vs H Q E h => ?_) (fun cdv A outer s H vs Q E hr h => ?_)
 ·obtain ⟨l, ld, b, as, Ts, ad, ds, n, rfl, _⟩ := h
  rfl
 ·obtain ⟨l, ld, b, as, Ts, ad, ds, n, rfl, SI, k⟩ := h
  have nd := q8x.nd
  have hz := SI.z
  refine ⟨_, (q02 (q0r (i := 3) nd rfl (Or.inl rfl) (qgo DRunner (hr.mono (by decide)) q0m (q00 (pv 0) (q00 (pv 1) q04))))
   (q02 (q25 PassesOwn.never rfl (q1j (pv 2)) (q10 (i := 4) nd rfl (Or.inl rfl))
   (q06 (q21 (q0z Danswer (hr.mono (by decide)) q0m (q00 (pv 3) (q00 (pv 4) q04))))))
   (q06 (q0a (pv 3))))), ?_⟩
  refine ⟨_, rfl, _, rfl, fun r dx hr0 hdx ndr => ?_⟩
  have kp1 : Kp [] H (upd (upd H dx (.own r)) r (.ins C dx [])) := fun c o e _ => by rw [q08 (q09 e hr0), q08 (q09 e hdx)]; exact e
  refine ⟨r, dx, l, b, as, Ts, H, n, rfl, q05, kp1, hr0, kp1.get SI.hl nEm, SI.S.same kp1, SI.ok, fun H2 I2 => ⟨rfl, ?_⟩⟩
  have ld2 : (newR Ts b).desks.length ≤ 900 := by simp [newR]; exact SI.ok.z
  generalize hR : newR Ts b = R0 at I2 k ld2
  refine ⟨_, rfl, ld, rfl, ⟨_, SqL.of (I2.kp.get SI.hd nEm)⟩, ?_⟩
  refine q1u (K := K) (a := ld) (xs := ad.map V.ref) (fun i σ H3 => ∃ v : Option V, σ = [some (.ref l), some (.int b), some (.ref ld), some (.ref r), v] ∧ RnAt C Cd H H3 r (runD R0 (ds.take i)).2 (n + i)) ⟨none, rfl, I2⟩ (fun i σ H3 _ ⟨_, _, I3⟩ => SqL.of (I3.kp.get SI.hd nEm)) ?_ ?_
  ·rintro i x σ H3 hx ⟨v, rfl, I3⟩
   rw [List.getElem?_map] at hx
   cases ea : ad[i]? with
   | none => rw [ea] at hx; cases hx
   | some a =>
    rw [ea] at hx
    obtain rfl : V.ref a = x := Option.some.inj hx
    have hi : i < ds.length := by rw [← SI.D.len]; exact (List.getElem?_eq_some_iff.mp ea).1
    have ed : ds[i]? = some ds[i] := List.getElem?_eq_getElem hi
    have hdA := (SI.D.at_ i a _ ea ed).same I3.kp
    have eR := q26 R0 (ds.take i) ds[i]
    rw [← q2p ed] at eR
    have hdl : (runD R0 (ds.take i)).2.desks.length ≤ 900 := by rw [(q2e R0 _).1]; exact ld2
    refine ⟨_, rfl, _, rfl, r, a, ds[i], _, _, n + i, rfl, hdA, I3, hdl, by omega, fun v' H4 I4 tk an => ?_⟩
    refine ⟨_, rfl, ?_⟩
    rw [eR]
    exact I4
  ·rintro σ H3 ⟨v, rfl, I3⟩
   have e : ds.take (ad.map V.ref).length = ds := by rw [List.length_map, SI.D.len, List.take_length]
   rw [List.length_map, SI.D.len, List.take_length] at I3
   exact ⟨_, rfl, k r H3 I3⟩
end
end K08
end
section
namespace K08
open PySem L2
abbrev q4c : Stmt := (top 18)
abbrev q9s : Stmt := (top 21)
abbrev qa0 : Stmt := (top 19)
abbrev q41 : Stmt := (top 20)
abbrev q5l : Stmt := (top 22)
abbrev sAt : Stmt := (top 26)
abbrev qaa : Stmt := (top 27)
abbrev q61 : Stmt := (top 28)
abbrev q40 : Stmt := (top 29)
abbrev q5s : Stmt := (top 30)
abbrev q7e : Stmt := (top 31)
abbrev q5x : Stmt := (top 32)
abbrev q9z : Stmt := (top 33)
abbrev q4e : Stmt := (top 34)
abbrev q5y : Stmt := (top 25)
abbrev sLaw : Stmt := (top 41)
abbrev qa4 : Stmt := (top 35)
abbrev q5n : Stmt := (top 36)
abbrev qab : Stmt := (top 38)
abbrev q5m : Stmt := (top 37)
abbrev q3d : Stmt := (top 39)
abbrev q5w : Stmt := (top 40)
abbrev sSo : Stmt := (top 24)
theorem qhl (as : List Addr) (k : Nat) : cutV (as.map V.ref) none (some (k : Int)) = (as.take k).map V.ref := by
 unfold cutV
 rw [HT.sIx_none, HT.sIx_nat, List.length_map, List.drop_zero, Nat.sub_zero, ← List.map_take]
 congr 1
 by_cases h : k ≤ as.length
 ·rw [Nat.min_eq_left h]
 ·rw [Nat.min_eq_right (by omega), List.take_length, List.take_of_length_le (by omega)]
theorem q91 {α β : Type} {R : α → β → Prop} {as bs : List α} {cs ds : List β} (l : as.length = cs.length) (h1 : ∀ (i : Nat) a c, as[i]? = some a → cs[i]? = some c → R a c) (h2 : ∀ (i : Nat) a c, bs[i]? = some a → ds[i]? = some c → R a c) :
  ∀ (i : Nat) a c, (as ++ bs)[i]? = some a → (cs ++ ds)[i]? = some c → R a c := by
 intro i a c e1 e2
 by_cases hi : i < as.length
 ·rw [List.getElem?_append_left hi] at e1
  rw [List.getElem?_append_left (by rw [← l]; exact hi)] at e2
  exact h1 i a c e1 e2
 ·rw [List.getElem?_append_right (by omega)] at e1
  rw [List.getElem?_append_right (by omega), ← l] at e2
  exact h2 _ a c e1 e2
theorem q9o {α β : Type} {R : α → β → Prop} {a : α} {c : β} (h : R a c) : ∀ (i : Nat) a' c', [a][i]? = some a' → [c][i]? = some c' → R a' c' := by
 intro i a' c' e1 e2
 cases i with
 | zero => simp at e1 e2; subst e1 e2; exact h
 | succ n => simp at e1
theorem Stps.app {H : Hp} {as bs : List Addr} {ss ts : List Stp} (h : Stps H as ss) (h' : Stps H bs ts) : Stps H (as ++ bs) (ss ++ ts) := ⟨by simp [h.len, h'.len], q91 (R := fun a (s : Stp) => H a = some (.tup s.vs)) h.len h.at_ h'.at_⟩
theorem Stps.one {H : Hp} {a : Addr} {s : Stp} (h : H a = some (.tup s.vs)) : Stps H [a] [s] := ⟨rfl, q9o (R := fun a (s : Stp) => H a = some (.tup s.vs)) h⟩
theorem Stps.same {H H' : Hp} {as : List Addr} {ss : List Stp} (h : Stps H as ss) (k : Kp [] H H') : Stps H' as ss := h.tk (Kp.tk k (by simp))
theorem Deeds.app {H : Hp} {as bs : List Addr} {ds es : List Deed} (h : Deeds H as ds) (h' : Deeds H bs es) : Deeds H (as ++ bs) (ds ++ es) := ⟨by simp [h.len, h'.len], q91 (R := q1y H) h.len h.at_ h'.at_⟩
theorem Deeds.one {H : Hp} {a : Addr} {d : Deed} (h : q1y H a d) : Deeds H [a] [d] := ⟨rfl, q9o (R := q1y H) h⟩
theorem Deeds.nil (H : Hp) : Deeds H [] [] := ⟨rfl, fun i a s e => by simp at e⟩
def del (H : Hp) (l : Addr) : Hp := fun b => if b = l then none else H b
def nw (H H' : Hp) : Hp := fun b => if (H b).isSome = true then none else H' b
theorem q2l {H : Hp} {l b : Addr} {o : HO} (h : H b = some o) (n : b ≠ l) : del H l b = some o := by unfold del; rw [if_neg n]; exact h
theorem q1k {H : Hp} {l : Addr} {o : HO} : del (upd H l o) l = del H l := by
 funext b
 unfold del
 by_cases e : b = l
 ·rw [if_pos e, if_pos e]
 ·rw [if_neg e, if_neg e, q08 e]
theorem q1n {H : Hp} {l : Addr} : Kp [] (del H l) H := fun b o e _ => by
 unfold del at e
 split at e
 ·cases e
 ·exact e
theorem Kp.dl {H H' : Hp} {l : Addr} (k : Kp [] H H') : Kp [] (del H l) (del H' l) := fun b o e _ => by
 unfold del at e ⊢
 split at e
 ·cases e
 ·rename_i n
  rw [if_neg n]
  exact k.get e nEm
theorem Kp.dof {H H' : Hp} {l : Addr} (k : Kp [] H H') (h : H l = none) : Kp [] H (del H' l) := fun b o e _ => q2l (k.get e nEm) (q09 e h)
theorem q43 {H H' : Hp} {b : Addr} {o : HO} (h : nw H H' b = some o) : H b = none ∧ H' b = some o := by
 unfold nw at h
 split at h
 ·cases h
 ·rename_i n
  refine ⟨?_, h⟩
  cases e : H b with
  | none => rfl
  | some u => rw [e] at n; exact absurd rfl n
theorem q62 {H H' : Hp} {b : Addr} {o : HO} (h : H' b = some o) (n : H b = none) : nw H H' b = some o := by unfold nw; rw [n]; exact h
theorem qfn {H H' : Hp} {l : Addr} {u : HO} (h : H l = some u) : Kp [] (nw H H') (del H' l) := fun b o e _ => q2l (q43 e).2 fun z => by
 have := (q43 e).1
 rw [z, h] at this
 cases this
theorem nw_l {H H1 H2 : Hp} (k : Kp [] H H1) : Kp [] (nw H1 H2) (nw H H2) := fun b o e _ => q62 (q43 e).2 (Kp.free k (q43 e).1)
theorem nw_r {H H1 H2 : Hp} (k : Kp [] H1 H2) : Kp [] (nw H H1) (nw H H2) := fun b o e _ => q62 (k.get (q43 e).2 (by simp)) (q43 e).1
theorem Kp.at_ {H H' : Hp} {t : Addr} {o : HO} (k : Kp [] H H') (h : H t = none) : Kp [] H (upd H' t o) := fun b u e _ => by rw [q08 (q09 e h)]; exact k.get e nEm
theorem qcn {H H2 Hc : Hp} {l t : Addr} {xs : List V} {o : HO} (kp : Kp [] H (del H2 l)) (hl : H2 l = some (.lst xs)) (k : Kp [] H2 Hc) (ht : H2 t = none) (hc : Hc t = some o) : Hc l = some (.lst xs) ∧ Kp [] H (del Hc l) ∧ del Hc l t = some o :=
 ⟨k.get hl nEm, kp.trans (Kp.dl k), q2l hc fun z => by rw [z, hl] at ht; cases ht⟩
theorem q5d (a b : Str) : (a ++ b).length = a.length + b.length := Array.size_append
theorem q6b {z : Str} {n : Int} (h0 : 0 ≤ n) (h1 : n ≤ 9) (hz : z.length ≤ 1) : (repS z n).length ≤ 9 := by
 unfold repS
 split
 ·exact Nat.zero_le _
 ·split
  ·omega
  ·show (Array.size _) ≤ 9
   rw [q6u]
   have e : z.cps.size = z.length := rfl
   rw [e]
   simp
   have h2 : n.toNat ≤ 9 := by omega
   calc n.toNat * z.length ≤ 9 * 1 := Nat.mul_le_mul h2 hz
    _ = 9 := rfl
section
variable {P : Program} {w : World} {K : PySem.W.Frag} {mg : Str → Option Value} {base : Heap}
def spAt (K : PySem.W.Frag) : Sp := fun vs H Q _ => ∃ (a : Addr) (ns : List Int) (k : Nat), vs = [.ref a, .int k] ∧ SqL K H a (ns.map V.int) ∧ Q (.int (ns.getD k 0)) H
theorem qk9 : FnScope ["_law_script", "_law_k"] ["_law_script", "_law_k"] (q03 sAt) := ⟨rfl, rfl, rfl, by decide +kernel, rfl, by decide +kernel, by decide +kernel⟩
theorem qk6 {f : Addr} {fd : FuncData} (Fn : Fun K "_law_at" "_law_at" sAt f fd) (B : Blt mg) : FnOk P w K mg base CX0 1 f fd ["_law_script", "_law_k"] (spAt K) := by
 refine Fn.ok qk9 (fun vs H Q E h => ?_) (fun cdv A outer s H vs Q E hr h => ?_)
 ·obtain ⟨a, ns, k, rfl, _⟩ := h
  rfl
 ·obtain ⟨a, ns, k, rfl, hS, q⟩ := h
  refine ⟨_, (q02 (q0w (q0h qa8 (pv 1) (q0f q0k rfl B.len PySem.boot_len (q00 (pv 0) q04)) (q0q _))
   (q06 (q0a (q0j q13 (pv 0) (pv 1) (fun _ _ => rfl))))
   q0b)
   (q06 (q0a q01))), ?_⟩
  refine ⟨_, rfl, _, rfl, a, _, rfl, .inl hS, _, _, rfl, rfl, _, rfl, ?_⟩
  rw [List.length_map]
  refine ite2 (fun h => ?_) (fun h => ?_)
  ·have h' : k < ns.length := by have := of_decide_eq_true h; omega
   refine ⟨_, rfl, _, rfl, a, _, _, _, rfl, rfl, hS, q07 (j := k) (v := .int (ns.getD k 0)) ?_, q⟩
   rw [List.getElem?_map, List.getElem?_eq_getElem h', List.getD_eq_getElem?_getD, List.getElem?_eq_getElem h']
   rfl
  ·have h' : ns.length ≤ k := by
    have : ¬ ((k : Int) < (ns.length : Int)) := fun z => h (decide_eq_true z)
    omega
   have e : ns.getD k 0 = 0 := by rw [List.getD_eq_getElem?_getD, List.getElem?_eq_none_iff.mpr h']; rfl
   rw [e] at q
   exact q
theorem qfl {j : Int} (h0 : 0 ≤ j) (h1 : j < 6) : ∃ c, atI (("abcdef" : Str).cps.toList) j = some c := by
 obtain ⟨n, rfl⟩ : ∃ n : Nat, j = (n : Int) := ⟨j.toNat, by omega⟩
 have hn : n < 6 := by omega
 match n, hn with
 | 0, _ => exact ⟨_, rfl⟩
 | 1, _ => exact ⟨_, rfl⟩
 | 2, _ => exact ⟨_, rfl⟩
 | 3, _ => exact ⟨_, rfl⟩
 | 4, _ => exact ⟨_, rfl⟩
 | 5, _ => exact ⟨_, rfl⟩
def spNm (g : Int → Int → Str) : Sp := fun vs H Q _ => ∃ (j c : Int), vs = [.int j, .int c] ∧ 0 ≤ j ∧ j < 6 ∧ 1 ≤ c ∧ c ≤ 9 ∧ ∀ H', Kp [] H H' → Q (.str (g c j)) H'
def q3t (c j : Int) : Str := if c > 1 then (repS "n" (c % 5) ++ (⟨#[(atI (("abcdef" : Str).cps.toList) j).getD 0]⟩ : Str)) ++ repS "n" (5 - c % 5) else ((["ann", "an", "", "bo", "b", "annie"] : List Str)[j.toNat]?).getD ""
theorem qei {c j : Int} {ch : Nat} (h : c > 1) (hc : atI (("abcdef" : Str).cps.toList) j = some ch) : q3t c j = (repS "n" (c % 5) ++ (⟨#[ch]⟩ : Str)) ++ repS "n" (5 - c % 5) := by unfold q3t; rw [if_pos h, hc]; rfl
theorem qe9 {c j : Int} {x : Str} (h : ¬ c > 1) (hx : (["ann", "an", "", "bo", "b", "annie"] : List Str)[j.toNat]? = some x) : q3t c j = x := by unfold q3t; rw [if_neg h, hx]; rfl
def q3p (c : Int) : List Str := (List.range 6).map (fun (j : Nat) => q3t c j) ++ [("nobody" : Str)]
theorem q4z (c : Int) {j : Int} (h0 : 0 ≤ j) (h1 : j < 6) : q3t c j ∈ q3p c := by
 unfold q3p
 rw [List.mem_append, List.mem_map]
 exact .inl ⟨j.toNat, List.mem_range.mpr (by omega), by rw [show ((j.toNat : Nat) : Int) = j by omega]⟩
theorem qgz : FnScope ["_law_j", "_law_count"] ["_law_j", "_law_count"] (q03 qaa) := ⟨rfl, rfl, rfl, by decide +kernel, rfl, by decide +kernel, by decide +kernel⟩
theorem qfy {f : Addr} {fd : FuncData} (Fn : Fun K "_law_work_called" "_law_work_called" qaa f fd) : FnOk P w K mg base CX0 1 f fd ["_law_j", "_law_count"] (spNm q3t) := by
 refine Fn.ok qgz (fun vs H Q E h => ?_) (fun cdv A outer s H vs Q E hr h => ?_)
 ·obtain ⟨j, c, rfl, _⟩ := h
  rfl
 ·obtain ⟨j, c, rfl, h0, h1, h2, h3, q⟩ := h
  refine ⟨_, (q02 (q0w (q0h qdz (pv 1) q01 (q0q _))
   (q06 (q0a (q0d q37 (q0d q37 (q0d q6r q0e (q0d q0p (pv 1) q01)) (q0j qf3 q0e (pv 0) (fun _ _ => rfl))) (q0d q6r q0e (q0d q4j q01 (q0d q0p (pv 1) q01))))))
   q0b)
   (q06 (q0a (q0j q13 (q1i (q00 q0e (q00 q0e (q00 q0e (q00 q0e (q00 q0e (q00 q0e q04))))))) (pv 0) (fun _ _ => rfl))))), ?_⟩
  refine ⟨_, rfl, _, _, rfl, rfl, _, rfl, ite2 (fun h => ?_) (fun h => ?_)⟩
  ·obtain ⟨ch, hch⟩ := qfl h0 h1
   have m0 := Int.emod_nonneg c (show (5 : Int) ≠ 0 by decide)
   have m1 := Int.emod_lt_of_pos c (show (0 : Int) < 5 by decide)
   have r1 := q6b (z := "n") m0 (by omega) (by decide)
   have r2 := q6b (z := "n") (n := 5 - c % 5) (by omega) (by omega) (by decide)
   have e1 : (Str.length (⟨#[ch]⟩ : Str)) = 1 := rfl
   have big : ∀ {n : Nat}, n ≤ 900 → n ≤ sizeLine := fun h => Nat.le_of_lt (q0u h)
   refine ⟨_, rfl, _, _, rfl, rfl, (by show (0 : Int) < _; decide), _, _, rfl, rfl, by omega, by omega, by decide, _, rfl, _, _, ch, rfl, rfl, by decide, hch, _, _, rfl, rfl, big (by rw [e1]; omega), _, rfl, _, _, rfl, rfl, (by show (0 : Int) < _; decide), _, _, rfl, rfl, _, _, rfl, rfl, by omega, by omega, by decide, _, _, rfl, rfl, big (by rw [q5d, e1]; omega), by have z := q _ (Kp.refl _ _); rw [qei (of_decide_eq_true h) hch] at z; exact z⟩
  ·refine ⟨(by show 6 ≤ sizeLine; decide), fun l hl => ⟨_, rfl, q4m V.str ["ann", "an", "", "bo", "b", "annie"] hl h0 (by show _ < (6 : Int); exact h1) fun x H1 ex k1 => by have z := q H1 k1; rw [qe9 (fun z => h (decide_eq_true z)) ex] at z; exact z⟩⟩
def kvOf (rows : List (Str × Int)) : Tb := rows.map fun q => ((Sum.inr q.1 : Key), V.int q.2)
def q64 (c j : Int) : Str := if c > 2 then (repS "o" (c % 4) ++ (⟨#[(atI (("abcdef" : Str).cps.toList) j).getD 0]⟩ : Str)) ++ repS "o" (5 - c % 4) else ((["oats", "oat", "salt", "oatsy", "oats ", ""] : List Str)[j.toNat]?).getD ""
theorem qbx {c j : Int} {ch : Nat} (h : c > 2) (hc : atI (("abcdef" : Str).cps.toList) j = some ch) : q64 c j = (repS "o" (c % 4) ++ (⟨#[ch]⟩ : Str)) ++ repS "o" (5 - c % 4) := by unfold q64; rw [if_pos h, hc]; rfl
theorem qbb {c j : Int} {x : Str} (h : ¬ c > 2) (hx : (["oats", "oat", "salt", "oatsy", "oats ", ""] : List Str)[j.toNat]? = some x) : q64 c j = x := by unfold q64; rw [if_neg h, hx]; rfl
def q1f (c : Int) : List Str := (List.range 6).map fun (j : Nat) => q64 c j
theorem q4i {c j : Int} {x : Str} (h0 : 0 ≤ j) (h1 : j < 6) (e : q64 c j = x) : x ∈ q1f c := by
 unfold q1f
 rw [List.mem_map]
 exact ⟨j.toNat, List.mem_range.mpr (by omega), by rw [show ((j.toNat : Nat) : Int) = j by omega]; exact e⟩
def spTh : Sp := fun vs H Q _ => ∃ (j c : Int), vs = [.int j, .int c] ∧ 0 ≤ j ∧ j < 6 ∧ 1 ≤ c ∧ c ≤ 9 ∧ ∀ x H', x ∈ q1f c → Kp [] H H' → Q (.str x) H'
def TbG (c : Int) (p : Int → Prop) (T : Tb) : Prop := ∃ rows : List (Str × Int), T = kvOf rows ∧ (∀ q ∈ rows, q.1 ∈ q1f c ∧ p q.2) ∧ (rows.map (·.1)).Nodup
def TbW (c : Int) (T : Tb) : Prop := TbG c (fun i => 0 ≤ i) T
theorem TbW.nil {c : Int} : TbW c [] := ⟨[], rfl, fun q h => by simp at h, List.nodup_nil⟩
theorem qgf (rows : List (Str × Int)) (x : Str) (i : Int) : putK (kvOf rows) (Sum.inr x : Key) (.int i) = kvOf (if (rows.any fun q => decide (q.1 = x)) = true then rows.map (fun q => if q.1 = x then (q.1, i) else q) else rows ++ [(x, i)]) := by
 have inj : ∀ q : Str × Int, decide ((Sum.inr q.1 : Key) = Sum.inr x) = decide (q.1 = x) := fun q => decide_eq_decide.mpr ⟨fun z => by injection z, fun z => by rw [z]⟩
 unfold putK kvOf
 have ea : ((rows.map fun q => ((Sum.inr q.1 : Key), V.int q.2)).any fun kv => decide (kv.1 = (Sum.inr x : Key))) = rows.any fun q => decide (q.1 = x) := by
  rw [List.any_map]
  exact congrArg (fun f => rows.any f) (funext inj)
 rw [ea]
 by_cases h : (rows.any fun q => decide (q.1 = x)) = true
 ·rw [if_pos h, if_pos h, List.map_map, List.map_map]
  refine List.map_congr_left fun q _ => ?_
  show (if (Sum.inr q.1 : Key) = Sum.inr x then ((Sum.inr q.1 : Key), V.int i) else ((Sum.inr q.1 : Key), V.int q.2)) = _
  by_cases e : q.1 = x
  ·rw [if_pos (by rw [e])]
   show _ = (fun (q : Str × Int) => ((Sum.inr q.1 : Key), V.int q.2)) (if q.1 = x then (q.1, i) else q)
   rw [if_pos e]
  ·rw [if_neg (fun z => e (by injection z))]
   show _ = (fun (q : Str × Int) => ((Sum.inr q.1 : Key), V.int q.2)) (if q.1 = x then (q.1, i) else q)
   rw [if_neg e]
 ·rw [if_neg h, if_neg h, List.map_append]
  rfl
theorem TbG.put {c : Int} {p : Int → Prop} {T : Tb} (h : TbG c p T) {x : Str} {i : Int} (hx : x ∈ q1f c) (hi : p i) : TbG c p (putK T (Sum.inr x : Key) (.int i)) := by
 obtain ⟨rows, rfl, hr, nd⟩ := h
 refine ⟨_, qgf rows x i, fun q hq => ?_, ?_⟩
 ·split at hq
  ·obtain ⟨q', h1, rfl⟩ := List.mem_map.mp hq
   by_cases e : q'.1 = x
   ·rw [if_pos e]; exact ⟨by rw [e]; exact hx, hi⟩
   ·rw [if_neg e]; exact hr q' h1
  ·rw [List.mem_append] at hq
   rcases hq with z | z
   ·exact hr q z
   ·simp at z; subst z; exact ⟨hx, hi⟩
 ·split
  ·have e : (rows.map fun q => if q.1 = x then (q.1, i) else q).map (·.1) = rows.map (·.1) := by
    rw [List.map_map]
    refine List.map_congr_left fun q _ => ?_
    show (if q.1 = x then (q.1, i) else q).1 = q.1
    split <;> rfl
   rw [e]; exact nd
  ·rename_i hn
   rw [List.map_append, List.nodup_append]
   refine ⟨nd, by simp, fun a ha b hb e => hn ?_⟩
   simp at hb
   obtain ⟨q, hq, rfl⟩ := List.mem_map.mp ha
   exact List.any_eq_true.mpr ⟨q, hq, decide_eq_true (e.trans hb)⟩
theorem TbW.put {c : Int} {T : Tb} (h : TbW c T) {x : Str} {i : Int} (hx : x ∈ q1f c) (hi : 0 ≤ i) : TbW c (putK T (Sum.inr x : Key) (.int i)) := TbG.put h hx hi
theorem qdj : FnScope ["_law_j", "_law_count"] ["_law_j", "_law_count"] (q03 q61) := ⟨rfl, rfl, rfl, by decide +kernel, rfl, by decide +kernel, by decide +kernel⟩
theorem qdi {f : Addr} {fd : FuncData} (Fn : Fun K "_law_thing_called" "_law_thing_called" q61 f fd) : FnOk P w K mg base CX0 1 f fd ["_law_j", "_law_count"] spTh := by
 refine Fn.ok qdj (fun vs H Q E h => ?_) (fun cdv A outer s H vs Q E hr h => ?_)
 ·obtain ⟨j, c, rfl, _⟩ := h
  rfl
 ·obtain ⟨j, c, rfl, h0, h1, h2, h3, q⟩ := h
  refine ⟨_, (q02 (q0w (q0h qdz (pv 1) q01 (q0q _))
   (q06 (q0a (q0d q37 (q0d q37 (q0d q6r q0e (q0d q0p (pv 1) q01)) (q0j qf3 q0e (pv 0) (fun _ _ => rfl))) (q0d q6r q0e (q0d q4j q01 (q0d q0p (pv 1) q01))))))
   q0b)
   (q06 (q0a (q0j q13 (q1i (q00 q0e (q00 q0e (q00 q0e (q00 q0e (q00 q0e (q00 q0e q04))))))) (pv 0) (fun _ _ => rfl))))), ?_⟩
  refine ⟨_, rfl, _, _, rfl, rfl, _, rfl, ite2 (fun h => ?_) (fun h => ?_)⟩
  ·obtain ⟨ch, hch⟩ := qfl h0 h1
   have m0 := Int.emod_nonneg c (show (4 : Int) ≠ 0 by decide)
   have m1 := Int.emod_lt_of_pos c (show (0 : Int) < 4 by decide)
   have r1 := q6b (z := "o") m0 (by omega) (by decide)
   have r2 := q6b (z := "o") (n := 5 - c % 4) (by omega) (by omega) (by decide)
   have e1 : (Str.length (⟨#[ch]⟩ : Str)) = 1 := rfl
   have big : ∀ {n : Nat}, n ≤ 900 → n ≤ sizeLine := fun h => Nat.le_of_lt (q0u h)
   refine ⟨_, rfl, _, _, rfl, rfl, (by show (0 : Int) < _; decide), _, _, rfl, rfl, by omega, by omega, by decide, _, rfl, _, _, ch, rfl, rfl, by decide, hch, _, _, rfl, rfl, big (by rw [e1]; omega), _, rfl, _, _, rfl, rfl, (by show (0 : Int) < _; decide), _, _, rfl, rfl, _, _, rfl, rfl, by omega, by omega, by decide, _, _, rfl, rfl, big (by rw [q5d, e1]; omega), q _ _ (q4i h0 h1 (qbx (of_decide_eq_true h) hch)) (Kp.refl _ _)⟩
  ·refine ⟨(by show 6 ≤ sizeLine; decide), fun l hl => ⟨_, rfl, q4m V.str ["oats", "oat", "salt", "oatsy", "oats ", ""] hl h0 (by show _ < (6 : Int); exact h1) fun x H1 ex k1 => q x H1 (q4i h0 h1 (qbb (fun z => h (decide_eq_true z)) ex)) k1⟩⟩
def q9k : Sp := fun vs H Q _ => ∃ (cell : Int) (c : Nat), vs = [.int cell, .int c] ∧ 1 ≤ c ∧ c ≤ 9 ∧ ∀ p as Ts H', H p = none → H' p = some (.lst (as.map V.ref)) → Stocks H' as Ts → StOk Ts 4 → (∀ T ∈ Ts, TbW c T) → Ts.length = c → Kp [] H H' → Q (.ref p) H'
theorem q7z : FnScope ["_law_cell", "_law_count", "_law_rows", "_law_k", "_law_things", "_law_some"] ["_law_cell", "_law_count"] (q03 q40) := ⟨rfl, rfl, rfl, by decide +kernel, rfl, by decide +kernel, by decide +kernel⟩
theorem q1q.nil : q1q [] := fun k v e => by cases e
theorem qb8 {f : Addr} {fd : FuncData} (Fn : Fun K "_law_stocks_of" "_law_stocks_of" q40 f fd) (B : Blt mg) (Dlaw_thing_called : Df P w K mg base CX0 1 "_law_thing_called" ["_law_j", "_law_count"] spTh) : FnOk P w K mg base CX0 2 f fd ["_law_cell", "_law_count"] q9k := by
 refine Fn.ok q7z (fun vs H Q E h => ?_) (fun cdv A outer s H vs Q E hr h => ?_)
 ·obtain ⟨cell, c, rfl, _⟩ := h
  rfl
 ·obtain ⟨cell, c, rfl, h1, h9, q⟩ := h
  have nd := q7z.nd
  have hu := q3r hr
  refine ⟨_, (q02 (q0r (i := 2) nd rfl (Or.inl rfl) (q1i q04))
   (q02 (q25 PassesOwn.never rfl (q2j rfl B.range (q00 (pv 1) q04)) (q10 (i := 3) nd rfl (Or.inl rfl))
   (q02 (q0r (i := 4) nd rfl (Or.inl rfl) (qgl (qdn (q0z Dlaw_thing_called (hr.mono (by decide)) q0m (q00 q01 (q00 (pv 1) q04))) (q0d q0p (q0d q0p (q0d q1b (q0d q2u (pv 0) (q0d q24 (pv 3) q01)) q01) q01) q01) qhs) rfl rfl (by simp) (by decide)))
   (q02 (q28 hu (pv 4) (q0z Dlaw_thing_called (hr.mono (by decide)) q0m (q00 q01 (q00 (pv 1) q04))) (q0d q0p (q0d q0p (q0d q1b (q0d q2u (pv 0) (q0d q24 (q0d q1b q01 (pv 3)) q01)) q01) q01) q01) rfl)
   (q02 (q28 hu (pv 4) (q0z Dlaw_thing_called (hr.mono (by decide)) q0m (q00 q01 (q00 (pv 1) q04))) (q0d q0p (q0d q0p (q0d q1b (q0d q2u (pv 0) (q0d q24 (q0d q1b q01 (pv 3)) q01)) q01) q01) q01) rfl)
   (q02 (q0r (i := 5) nd rfl (Or.inl rfl) (q1i (q00 q01 (q00 q01 (q00 q01 q04)))))
   (q02 (q28 hu (pv 4) (q0z Dlaw_thing_called (hr.mono (by decide)) q0m (q00 q01 (q00 (pv 1) q04))) (q0j q13 (pv 5) (q0d q0p (q0d q0p (q0d q1b (q0d q2u (pv 0) (q0d q24 (pv 3) q01)) q01) q01) q01) (fun _ _ => rfl)) rfl)
   (q06 (q21 (q51 PySem.F.plainAttrs_list PySem.F.slot_list_append PySem.F.type_list_append q1e (pv 2) (q00 (pv 4) q04))))))))))
   (q06 (q0a (pv 2))))), ?_⟩
  refine ⟨(by show 0 ≤ sizeLine; decide), fun sl hsl => ?_⟩
  refine ⟨_, rfl, _, rfl, (by omega), (by omega), ?_⟩
  refine q2i (lo := 0) (n := ((c : Int)).toNat) (fun i σ H2 => ∃ (v3 v4 v5 : Option V) (as : List Addr) (Ts : List Tb), σ = [some (.int cell), some (.int c), some (.ref sl), v3, v4, v5] ∧ Stocks (del H2 sl) as Ts ∧ Ts.length = i ∧ (∀ T ∈ Ts, (q1q T ∧ TbW c T) ∧ T.length ≤ 4) ∧ H2 sl = some (.lst (as.map V.ref)) ∧ Kp [] H (del H2 sl)) ?_ ?_ ?_
  ·exact ⟨none, none, none, [], [], rfl, ⟨rfl, fun i a T e => by simp at e⟩, rfl, fun T hT => by simp at hT, q05, by rw [q1k]; exact Kp.dof (Kp.refl _ _) hsl⟩
  ·rintro i σ H2 hi ⟨v3, v4, v5, as, Ts, rfl, S, lT, ok, hl, kp⟩
   have hi9 : i < 9 := by omega
   refine fun t ht => ⟨_, rfl, 0, c, rfl, by decide, by decide, by omega, by omega, fun x0 H3 hx0 k3 => ⟨_, rfl, _, rfl, _, _, rfl, rfl, _, _, rfl, rfl, (by show (0 : Int) < _ ∧ _ < (1073741824 : Int); omega), _, _, rfl, rfl, .inr ⟨by decide, by decide⟩, _, _, rfl, rfl, (by show (0 : Int) < _; decide), _, _, rfl, rfl, (by show (0 : Int) < _; decide), k3.get q05 nEm, [(Sum.inr x0, _)], rfl, (by show 1 ≤ 15; decide), ?_⟩⟩
   refine abs (fun H4 => Kp [] H2 H4 ∧ ∃ T, H4 t = some (.dK T) ∧ (q1q T ∧ TbW c T) ∧ T.length ≤ 1) ⟨Kp.at_ ((Kp.new ht).trans k3) ht, _, q05, ⟨q1q.nil.put _ _, TbW.nil.put hx0 (Int.emod_nonneg _ (by decide))⟩, ?_⟩ ?_
   ·exact Nat.le_refl 1
   rintro H4 ⟨k4, T4, ht4, i4, l4⟩
   have big : ∀ {n : Nat}, n ≤ 900 → n < sizeLine := q0u
   refine ⟨_, rfl, _, rfl, _, _, rfl, rfl, .inl ⟨by decide, by decide⟩, _, _, rfl, rfl, _, _, rfl, rfl, (by show (0 : Int) < _ ∧ _ < (1073741824 : Int); omega), _, _, rfl, rfl, .inr ⟨by decide, by decide⟩, _, _, rfl, rfl, (by show (0 : Int) < _; decide), _, _, rfl, rfl, (by show (0 : Int) < _; decide), _, rfl, _, rfl, 1, c, rfl, by decide, by decide, by omega, by omega, fun x1 H5 hx1 k5 => ⟨t, _, rfl, .inl ⟨_, Sum.inr x1, k5.get ht4 nEm, rfl, big (by omega), rfl⟩, ?_⟩⟩
   refine abs (fun H6 => Kp [] H2 H6 ∧ ∃ T, H6 t = some (.dK T) ∧ (q1q T ∧ TbW c T) ∧ T.length ≤ 2) ⟨Kp.at_ (k4.trans k5) ht, _, q05, ⟨i4.1.put _ _, i4.2.put hx1 (Int.emod_nonneg _ (by decide))⟩, ?_⟩ ?_
   ·exact Nat.le_trans (q0t _ _ _) (by omega)
   rintro H6 ⟨k6, T6, ht6, i6, l6⟩
   refine ⟨_, rfl, _, rfl, _, _, rfl, rfl, .inl ⟨by decide, by decide⟩, _, _, rfl, rfl, _, _, rfl, rfl, (by show (0 : Int) < _ ∧ _ < (1073741824 : Int); omega), _, _, rfl, rfl, .inr ⟨by decide, by decide⟩, _, _, rfl, rfl, (by show (0 : Int) < _; decide), _, _, rfl, rfl, (by show (0 : Int) < _; decide), _, rfl, _, rfl, 3, c, rfl, by decide, by decide, by omega, by omega, fun x2 H7 hx2 k7 => ⟨t, _, rfl, .inl ⟨_, Sum.inr x2, k7.get ht6 nEm, rfl, big (by omega), rfl⟩, ?_⟩⟩
   refine abs (fun H8 => Kp [] H2 H8 ∧ ∃ T, H8 t = some (.dK T) ∧ (q1q T ∧ TbW c T) ∧ T.length ≤ 3) ⟨Kp.at_ (k6.trans k7) ht, _, q05, ⟨i6.1.put _ _, i6.2.put hx2 (Int.emod_nonneg _ (by decide))⟩, ?_⟩ ?_
   ·exact Nat.le_trans (q0t _ _ _) (by omega)
   rintro H8 ⟨k8, T8, ht8, i8, l8⟩
   refine ⟨(by show 3 ≤ sizeLine; decide), fun so hso => ?_⟩
   have ns : so ≠ t := fun z => by rw [z, ht8] at hso; cases hso
   refine abs (fun H9 => Kp [] H2 H9 ∧ H9 t = some (.dK T8) ∧ H9 so = some (.lst (([0, 3, 100000000000000000000] : List Int).map V.int))) ⟨k8.trans (Kp.new hso), by rw [q08 (Ne.symm ns)]; exact ht8, q05⟩ ?_
   rintro H9 ⟨k9, ht9, hso9⟩
   have ip := q53 (cell / (0 + (i : Int) + 5) * 48271) 1019 3 (by decide) (by decide)
   obtain ⟨v, hv1, hv2⟩ := qjl (xs := ([0, 3, 100000000000000000000] : List Int).map V.int) ip.1 (by show _ < (3 : Int); exact ip.2)
   rw [List.getElem?_map] at hv2
   obtain ⟨m, hm, rfl⟩ := Option.map_eq_some_iff.mp hv2
   refine ⟨_, rfl, _, rfl, _, rfl, _, _, rfl, rfl, _, _, rfl, rfl, (by show (0 : Int) < _ ∧ _ < (1073741824 : Int); omega), _, _, rfl, rfl, .inr ⟨by decide, by decide⟩, _, _, rfl, rfl, (by show (0 : Int) < _; decide), _, _, rfl, rfl, (by show (0 : Int) < _; decide), so, _, _, _, rfl, rfl, SqL.of hso9, hv1, _, rfl, _, rfl, 2, c, rfl, by decide, by decide, by omega, by omega, fun x3 H10 hx3 k10 => ⟨t, _, rfl, .inl ⟨_, Sum.inr x3, k10.get ht9 nEm, rfl, big (by omega), rfl⟩, ?_⟩⟩
   refine abs (fun H11 => Kp [] H2 H11 ∧ ∃ T, H11 t = some (.dK T) ∧ (q1q T ∧ TbW c T) ∧ T.length ≤ 4) ⟨Kp.at_ (k9.trans k10) ht, _, q05, ⟨i8.1.put _ _, i8.2.put hx3 (by have := List.mem_of_getElem? hm; simp at this; omega)⟩, ?_⟩ ?_
   ·exact Nat.le_trans (q0t _ _ _) (by omega)
   rintro H11 ⟨k11, T, ht11, i11, l11⟩
   obtain ⟨hl11, kp11, hd11⟩ := qcn kp hl k11 ht ht11
   refine ⟨_, rfl, .inl ⟨rfl, _, SqL.of hl11⟩, _, rfl, sl, _, _, rfl, rfl, hl11, (by rw [List.length_map, S.len]; exact big (by omega)), ?_⟩
   refine ⟨_, _, _, as ++ [t], Ts ++ [T], rfl, ?_, by simp [lT], ?_, by rw [q05, List.map_append]; rfl, by rw [q1k]; exact kp11⟩
   ·rw [q1k]
    exact ⟨by simp [S.len], q91 (R := fun a (T : Tb) => del H11 sl a = some (.dK T)) S.len (S.same (Kp.dl k11)).at_ (q9o (R := fun a (T : Tb) => del H11 sl a = some (.dK T)) hd11)⟩
   ·intro T' hT'
    rw [List.mem_append] at hT'
    rcases hT' with z | z
    ·exact ok T' z
    ·simp at z
     subst z
     exact ⟨i11, l11⟩
  ·rintro σ H2 ⟨v3, v4, v5, as, Ts, rfl, S, lT, ok, hl, kp⟩
   have lT' : Ts.length = c := by rw [lT]; omega
   exact ⟨_, rfl, q sl as Ts H2 hsl hl (S.same q1n) ⟨fun T hT => (ok T hT).1.1, fun T hT => (ok T hT).2, by omega⟩ (fun T hT => (ok T hT).1.2) lT' (kp.trans q1n)⟩
end
end K08
end
section
namespace K08
open PySem L2
theorem qcu {K : PySem.W.Frag} {te : TE} {σ : St} {H : Hp} {Q : VK} {j : Nat} {sl : Addr} {sas : List Addr} {Ts : List Tb} (hv : σ[j]? = some (some (.ref sl))) (hl : H sl = some (.lst (sas.map V.ref))) (S : Stocks H sas Ts) (hz : Ts.length ≤ 900)
  (hte : ∀ σ H Q a kvs, σ[0]? = some (some (V.ref a)) → H a = some (.dK kvs) → (∀ p, H p = none → Q (.ref p) (upd H p (.dK kvs))) → te σ H Q)
  (k : ∀ p cas H', H p = none → H' p = some (.lst (cas.map V.ref)) → Stocks H' cas Ts → Kp [] H H' → (cas.Nodup ∧ ∀ a ∈ cas, H a = none) → Q (.ref p) H') : qg4 (qh9 K (tVar j)) [none] (qc4 0) qby te σ H Q := by
 refine q77 hv (SqL.of hl) fun D0 hD => ⟨(fun i σ ys H2 => ∃ (v0 : Option V) (cas : List Addr), σ = [v0] ∧ ys = cas.map V.ref ∧ Stocks H2 cas (Ts.take i) ∧ (cas.Nodup ∧ ∀ a ∈ cas, H a = none) ∧ Kp [] H H2 ∧ H2 D0 = some (.lst ys)), ?_, ?_, ?_, ?_⟩
 ·exact ⟨none, [], rfl, rfl, ⟨rfl, fun i a T e => by simp at e⟩, ⟨List.nodup_nil, by simp⟩, Kp.new hD, q05⟩
 ·rintro i σ ys H2 hi ⟨v0, cas, rfl, ey, St, nw, kp, hy⟩
  exact ⟨SqL.of (kp.get hl nEm), hy⟩
 ·rintro i x σ ys H2 hx ⟨v0, cas, rfl, ey, St, nw, kp, hy⟩
  rw [List.getElem?_map] at hx
  cases ea : sas[i]? with
  | none => rw [ea] at hx; cases hx
  | some a =>
   rw [ea] at hx
   obtain rfl : V.ref a = x := Option.some.inj hx
   have hi : i < Ts.length := by rw [← S.len]; exact (List.getElem?_eq_some_iff.mp ea).1
   have eT : Ts[i]? = some Ts[i] := List.getElem?_eq_getElem hi
   refine hte _ _ _ a Ts[i] rfl (kp.get (S.at_ i a _ ea eT) nEm) fun p hp => ?_
   have kb : Kp [] H2 (upd H2 p (.dK Ts[i])) := Kp.new hp
   have hyb := kb.get hy nEm
   have nD : ∀ {c : Addr} {T : Tb}, (upd H2 p (.dK Ts[i])) c = some (.dK T) → (upd (upd H2 p (.dK Ts[i])) D0 (.lst (ys ++ [V.ref p]))) c = some (.dK T) := fun {c T} e => by
    rw [q08 (q3k e hyb (by intro z; cases z))]; exact e
   refine ⟨hyb, ?_, _, cas ++ [p], rfl, by rw [ey, List.map_append]; rfl, ?_, ?_, ?_, q05⟩
   ·rw [ey, List.length_map, St.len, List.length_take]; exact q0u (by omega)
   ·rw [List.take_add_one, eT]
    refine ⟨by rw [List.length_append, List.length_append, St.len]; rfl, q91 (R := fun c (T : Tb) => (upd (upd H2 p (.dK Ts[i])) D0 (.lst (ys ++ [V.ref p]))) c = some (.dK T)) St.len (fun i c T e1 e2 => nD (kb.get (St.at_ i c T e1 e2) nEm)) (q9o (R := fun c (T : Tb) => (upd (upd H2 p (.dK Ts[i])) D0 (.lst (ys ++ [V.ref p]))) c = some (.dK T)) (nD q05))⟩
   ·refine ⟨?_, fun c hc => ?_⟩
    ·rw [List.nodup_append]
     refine ⟨nw.1, by simp, fun c hc d hd e => ?_⟩
     simp at hd
     obtain ⟨n, en⟩ := List.mem_iff_getElem?.mp hc
     have hn : n < (Ts.take i).length := by rw [← St.len]; exact (List.getElem?_eq_some_iff.mp en).1
     have := St.at_ n c _ en (List.getElem?_eq_getElem hn)
     rw [e, hd, hp] at this
     cases this
    ·rcases List.mem_append.mp hc with z | z
     ·exact nw.2 c z
     ·simp at z; subst z; exact kp.free hp
   ·intro c o e hn
    rw [q08 (q09 e hD)]
    exact (kp.trans kb) c o e hn
 ·rintro σ ys H2 ⟨v0, cas, rfl, ey, St, nw, kp, hy⟩
  rw [List.length_map, S.len, List.take_length] at St
  subst ey
  exact k D0 cas H2 hD hy St kp nw
section
variable {P : Program} {w : World} {K : PySem.W.Frag} {mg : Str → Option Value} {base : Heap}
def qct (c : Int) (ss : List Stp) : Prop := ss.length ≤ 12 ∧ (∀ s ∈ ss, 0 ≤ s.d ∧ s.d < c) ∧ ∀ s ∈ ss, s.x ∈ q1f c ∧ 0 ≤ s.n
def q2r (c : Int) : Deed → Prop
 | .start x ss => x ∈ q3p c ∧ qct c ss
 | .go _ l => l = "ok" ∨ l = "lost" ∨ l = "deaf"
 | .fill _ x n => x ∈ q1f c ∧ 0 ≤ n
 | _ => True
def q85 : Sp := fun vs H Q _ => ∃ (cell c : Int), vs = [.int cell, .int c] ∧ 1 ≤ c ∧ c ≤ 9 ∧ ∀ p as ss H', nw H H' p = some (.lst (as.map V.ref)) → Stps (nw H H') as ss → qct c ss → Kp [] H H' → Q (.ref p) H'
theorem q9g : FnScope ["_law_cell", "_law_count", "_law_steps", "_law_j", "_law_thing", "_law_desk", "_law_many"] ["_law_cell", "_law_count"] (q03 q5s) := ⟨rfl, rfl, rfl, by decide +kernel, rfl, by decide +kernel, by decide +kernel⟩
theorem Stps.kp {H H' : Hp} {as : List Addr} {ss : List Stp} (h : Stps H as ss) (k : Kp [] H H') : Stps H' as ss := h.tk (Kp.tk k (by simp))
theorem q1y.kp {H H' : Hp} {a : Addr} {d : Deed} (h : q1y H a d) (k : Kp [] H H') : q1y H' a d := h.same k
theorem qe1 {f : Addr} {fd : FuncData} (Fn : Fun K "_law_steps_of" "_law_steps_of" q5s f fd) (B : Blt mg) (Dlaw_thing_called : Df P w K mg base CX0 1 "_law_thing_called" ["_law_j", "_law_count"] spTh) : FnOk P w K mg base CX0 2 f fd ["_law_cell", "_law_count"] q85 := by
 refine Fn.ok q9g (fun vs H Q E h => ?_) (fun cdv A outer s H vs Q E hr h => ?_)
 ·obtain ⟨cell, c, rfl, _⟩ := h
  rfl
 ·obtain ⟨cell, c, rfl, h1, h9, q⟩ := h
  have nd := q9g.nd
  refine ⟨_, (q02 (q0r (i := 2) nd rfl (Or.inl rfl) (q1i q04))
   (q02 (q25 PassesOwn.never rfl (q2j rfl B.range (q00 (q0j q13 (q1i (q00 q01 (q00 q01 (q00 q01 (q00 q01 (q00 q01 (q00 q01 (q00 q01 (q00 q01 q04))))))))) (q0d q0p (q0d q0p (q0d q1b (pv 0) q01) q01) q01) (fun _ _ => rfl)) q04)) (q10 (i := 3) nd rfl (Or.inl rfl))
   (q02 (q0r (i := 4) nd rfl (Or.inl rfl) (q0z Dlaw_thing_called (hr.mono (by decide)) q0m (q00 (q0d q0p (q0d q0p (q0d q1b (q0d q2u (pv 0) (q0d q24 (q0d q1b q01 (pv 3)) q01)) q01) q01) q01) (q00 (pv 1) q04))))
   (q02 (q0r (i := 5) nd rfl (Or.inl rfl) (q0d q0p (q0d q0p (q0d q1b (q0d q24 (q0d q2u (pv 0) (q0d q24 (pv 3) q01)) (pv 3)) q01) q01) (pv 1)))
   (q02 (q0r (i := 6) nd rfl (Or.inl rfl) (q0d q0p (q0d q0p (q0d q1b (q0d q2u (pv 0) (q0d q24 (pv 3) q01)) q01) q01) q01))
   (q02 (q0w (q0h q23 (q0d q0p (q0d q0p (q0d q1b (q0d q2u (pv 0) (q0d q24 (pv 3) q01)) q01) q01) q01) q01 (q0q _))
   (q06 (q0r (i := 6) nd rfl (Or.inl rfl) (q0j q13 (q1i (q00 q01 (q00 q01 q04))) (q0d q0p (q0d q0p (q0d q1b (pv 0) q01) q01) q01) (fun _ _ => rfl))))
   q0b)
   (q06 (q21 (q51 PySem.F.plainAttrs_list PySem.F.slot_list_append PySem.F.type_list_append q1e (pv 2) (q00 (q1g (q00 (pv 5) (q00 (pv 4) (q00 (pv 6) q04)))) q04)))))))))
   (q06 (q0a (pv 2))))), ?_⟩
  refine ⟨(by show 0 ≤ sizeLine; decide), fun sl hsl => ?_⟩
  refine abs (fun H1 => Kp [] H (del H1 sl) ∧ H1 sl = some (.lst ([] : List V))) ⟨by rw [q1k]; exact Kp.dof (Kp.refl _ _) hsl, q05⟩ ?_
  rintro H1 ⟨kp1, hl1⟩
  refine ⟨(by show 8 ≤ sizeLine; decide), fun l hl => ⟨_, rfl, _, _, rfl, rfl, .inr ⟨by decide, by decide⟩, _, _, rfl, rfl, (by show (0 : Int) < _; decide), _, _, rfl, rfl, (by show (0 : Int) < _; decide), q4m V.int [0, 1, 2, 3, 4, 1, 2, 12] hl (Int.emod_nonneg _ (by decide)) (by show _ < (8 : Int); exact Int.emod_lt_of_pos _ (by decide)) fun m H2 em k2 => ?_⟩⟩
  have hm : 0 ≤ m ∧ m ≤ 12 := by
   have := List.mem_of_getElem? em
   simp at this
   omega
  refine ⟨_, rfl, (by omega), (by omega), ?_⟩
  refine q2i (lo := 0) (n := m.toNat) (fun i σ H3 => ∃ (v3 v4 v5 v6 : Option V) (as : List Addr) (ss : List Stp), σ = [some (.int cell), some (.int c), some (.ref sl), v3, v4, v5, v6] ∧ Stps (nw H (del H3 sl)) as ss ∧ ss.length = i ∧ (∀ s ∈ ss, (0 ≤ s.d ∧ s.d < c) ∧ s.x ∈ q1f c ∧ 0 ≤ s.n) ∧ H3 sl = some (.lst (as.map V.ref)) ∧ Kp [] H (del H3 sl)) ?_ ?_ ?_
  ·exact ⟨none, none, none, none, [], [], rfl, ⟨rfl, fun i a s e => by simp at e⟩, rfl, fun s hs => by simp at hs, k2.get hl1 nEm, kp1.trans (Kp.dl k2)⟩
  ·rintro i σ H3 hi ⟨v3, v4, v5, v6, as, ss, rfl, S, lS, ok, hl3, kp⟩
   have hi9 : i < 12 := by omega
   have p6 := q53 (cell / (2 * (0 + (i : Int)) + 3) * 48271) 1033 6 (by decide) (by decide)
   refine ⟨_, rfl, _, rfl, _, _, rfl, rfl, .inl ⟨by decide, by decide⟩, _, _, rfl, rfl, _, _, rfl, rfl, (by show (0 : Int) < _ ∧ _ < (1073741824 : Int); omega), _, _, rfl, rfl, .inr ⟨by decide, by decide⟩, _, _, rfl, rfl, (by show (0 : Int) < _; decide), _, _, rfl, rfl, (by show (0 : Int) < _; decide), _, rfl, _, c, rfl, p6.1, p6.2, h1, h9, fun x H4 hx k4 => ?_⟩
   refine ⟨_, rfl, _, rfl, _, _, rfl, rfl, _, _, rfl, rfl, (by show (0 : Int) < _ ∧ _ < (1073741824 : Int); omega), _, rfl, _, _, rfl, rfl, _, _, rfl, rfl, .inr ⟨by decide, by decide⟩, _, _, rfl, rfl, (by show (0 : Int) < _; decide), _, rfl, _, _, rfl, rfl, (by show (0 : Int) < _; omega), ?_⟩
   have pd := q53 ((cell / (0 + (i : Int) + 2) + (0 + (i : Int))) * 48271) 1031 c (by decide) (by omega)
   refine qcs fun d hd => ?_
   rw [← hd] at pd
   clear hd
   refine ⟨_, rfl, _, rfl, _, _, rfl, rfl, _, _, rfl, rfl, (by show (0 : Int) < _ ∧ _ < (1073741824 : Int); omega), _, _, rfl, rfl, .inr ⟨by decide, by decide⟩, _, _, rfl, rfl, (by show (0 : Int) < _; decide), _, _, rfl, rfl, (by show (0 : Int) < _; decide), ?_⟩
   refine qcs fun m0 e0 => ?_
   have hm0 : 0 ≤ m0 := by rw [e0]; exact Int.emod_nonneg _ (by decide)
   clear e0
   refine ⟨_, rfl, _, rfl, _, _, rfl, rfl, _, _, rfl, rfl, (by show (0 : Int) < _ ∧ _ < (1073741824 : Int); omega), _, _, rfl, rfl, .inr ⟨by decide, by decide⟩, _, _, rfl, rfl, (by show (0 : Int) < _; decide), _, _, rfl, rfl, (by show (0 : Int) < _; decide), rfl, _, rfl, ite2 (fun h => ?_) (fun h => ?_)⟩
   ·refine ⟨(by show 2 ≤ sizeLine; decide), fun l' hl' => ⟨_, rfl, _, _, rfl, rfl, .inr ⟨by decide, by decide⟩, _, _, rfl, rfl, (by show (0 : Int) < _; decide), _, _, rfl, rfl, (by show (0 : Int) < _; decide), q4m V.int [25, 70000000000000000000] hl' (Int.emod_nonneg _ (by decide)) (by show _ < (2 : Int); exact Int.emod_lt_of_pos _ (by decide)) fun m1 H5 em1 k5 => ?_⟩⟩
    have hm0 : 0 ≤ m1 := by have := List.mem_of_getElem? em1; simp at this; omega
    refine ⟨_, rfl, .inl ⟨rfl, _, SqL.of ((k4.trans k5).get hl3 nEm)⟩, _, rfl, _, rfl, _, rfl, (by show 3 ≤ sizeLine; decide), fun t ht => ?_⟩
    have k6 : Kp [] H3 (upd H5 t (.tup (Stp.vs ⟨d, x, m1⟩))) := (k4.trans k5).trans (Kp.new ht)
    have ht3 : H3 t = none := Kp.free (k4.trans k5) ht
    have hl5 := k6.get hl3 nEm
    obtain ⟨_, kp6, hd6⟩ := qcn kp hl3 k6 ht3 q05
    refine ⟨sl, _, _, rfl, rfl, hl5, (by rw [List.length_map, S.len]; exact q0u (by omega)), ?_⟩
    refine ⟨_, _, _, _, as ++ [t], ss ++ [⟨d, x, m1⟩], rfl, ?_, by simp [lS], ?_, by rw [q05, List.map_append]; rfl, by rw [q1k]; exact kp6⟩
    ·rw [q1k]
     exact (S.kp (nw_r (Kp.dl k6))).app (.one (q62 hd6 (Kp.free kp (by unfold del; split; rfl; exact ht3))))
    ·intro s' hs'
     rw [List.mem_append] at hs'
     rcases hs' with z | z
     ·exact ok s' z
     ·simp at z
      subst z
      exact ⟨pd, hx, hm0⟩
   ·obtain ⟨m1, rfl⟩ : ∃ m1, m1 = m0 := ⟨_, rfl⟩
    have k5 := Kp.refl [] H4
    obtain ⟨H5, e5⟩ : ∃ H5, H4 = H5 := ⟨_, rfl⟩
    rw [e5] at k4 k5 ⊢
    refine ⟨_, rfl, .inl ⟨rfl, _, SqL.of ((k4.trans k5).get hl3 nEm)⟩, _, rfl, _, rfl, _, rfl, (by show 3 ≤ sizeLine; decide), fun t ht => ?_⟩
    have k6 : Kp [] H3 (upd H5 t (.tup (Stp.vs ⟨d, x, m1⟩))) := (k4.trans k5).trans (Kp.new ht)
    have ht3 : H3 t = none := Kp.free (k4.trans k5) ht
    have hl5 := k6.get hl3 nEm
    obtain ⟨_, kp6, hd6⟩ := qcn kp hl3 k6 ht3 q05
    refine ⟨sl, _, _, rfl, rfl, hl5, (by rw [List.length_map, S.len]; exact q0u (by omega)), ?_⟩
    refine ⟨_, _, _, _, as ++ [t], ss ++ [⟨d, x, m1⟩], rfl, ?_, by simp [lS], ?_, by rw [q05, List.map_append]; rfl, by rw [q1k]; exact kp6⟩
    ·rw [q1k]
     exact (S.kp (nw_r (Kp.dl k6))).app (.one (q62 hd6 (Kp.free kp (by unfold del; split; rfl; exact ht3))))
    ·intro s' hs'
     rw [List.mem_append] at hs'
     rcases hs' with z | z
     ·exact ok s' z
     ·simp at z
      subst z
      exact ⟨pd, hx, hm0⟩
  ·rintro σ H3 ⟨v3, v4, v5, v6, as, ss, rfl, S, lS, ok, hl3, kp⟩
   have kpH := kp.trans q1n
   exact ⟨_, rfl, q sl as ss H3 (q62 hl3 hsl) (S.kp (nw_r q1n)) ⟨by omega, fun s hs => (ok s hs).1, fun s hs => (ok s hs).2⟩ kpH⟩
end
end K08
end
section
namespace K08
open PySem L2
section
variable {P : Program} {w : World} {K : PySem.W.Frag} {mg : Str → Option Value} {base : Heap}
def qfi : Sp := fun vs H Q _ => ∃ (cell k c : Int), vs = [.int cell, .int k, .int c] ∧ 0 ≤ k ∧ 1 ≤ c ∧ c ≤ 9 ∧ ∀ a d H', q1y (nw H H') a d → q2r c d → Kp [] H H' → Q (.ref a) H'
theorem qaz : FnScope ["_law_cell", "_law_k", "_law_count", "_law_way", "_law_work", "_law_luck", "_law_which", "_law_large", "_law_odd", "_law_desk", "_law_many"] ["_law_cell", "_law_k", "_law_count"] (q03 q7e) := ⟨rfl, rfl, rfl, by decide +kernel, rfl, by decide +kernel, by decide +kernel⟩
theorem qgk {f : Addr} {fd : FuncData} (Fn : Fun K "_law_deed_of" "_law_deed_of" q7e f fd) (B : Blt mg) (Dlaw_work_called : Df P w K mg base CX0 1 "_law_work_called" ["_law_j", "_law_count"] (spNm q3t)) (Dlaw_thing_called : Df P w K mg base CX0 1 "_law_thing_called" ["_law_j", "_law_count"] spTh)
  (Dlaw_steps_of : Df P w K mg base CX0 2 "_law_steps_of" ["_law_cell", "_law_count"] q85) : FnOk P w K mg base CX0 3 f fd ["_law_cell", "_law_k", "_law_count"] qfi := by
 refine Fn.ok qaz (fun vs H Q E h => ?_) (fun cdv A outer s H vs Q E hr h => ?_)
 ·obtain ⟨cell, k, c, rfl, _⟩ := h
  rfl
 ·obtain ⟨cell, k, c, rfl, h0, h1, h9, q⟩ := h
  have nd := qaz.nd
  have big : ∀ {n : Nat}, n ≤ 900 → n ≤ sizeLine := fun h => Nat.le_of_lt (q0u h)
  obtain ⟨t4, h4, key⟩ : ∃ t4, PSs (cxOf CX0 P w K mg base ["_law_cell", "_law_k", "_law_count", "_law_way", "_law_work", "_law_luck", "_law_which", "_law_large", "_law_odd", "_law_desk", "_law_many"] "_law_deed_of" (q03 q7e) f cdv A outer s H E).nox ((q0c q7e).drop 4) t4 ∧
    ∀ (way : Int) (x luck : Str) (H1 : Hp), x ∈ q3p c → (luck = "ok" ∨ luck = "lost" ∨ luck = "deaf") → Kp [] H H1 →
     t4 { nx := fun _ H' => Q .non H', rt := Q } [some (.int cell), some (.int k), some (.int c), some (.int way), some (.str x), some (.str luck), none, none, none, none, none] H1 := by
   refine ⟨_, (q02 (q0w (q0h q23 (pv 3) q01 (q0q _))
   (q06 (q0a (q1g (q00 q0e (q00 (pv 4) (q00 (q0z Dlaw_steps_of (hr.mono (by decide)) q0m (q00 (q0d q2u (pv 0) q01) (q00 (pv 2) q04))) q04))))))
   q0b)
   (q02 (q0w (q0h q23 (pv 3) q01 (q0q _))
   (q02 (q0r (i := 6) nd rfl (Or.inl rfl) (q0d q0p (q0d q0p (q0d q1b (pv 0) q01) q01) (q0d q24 (pv 1) q01)))
   (q02 (q0w (q0h q23 (q0d q0p (q0d q0p (q0d q1b (pv 0) q01) q01) q01) q01 (q0q _))
   (q06 (q0r (i := 6) nd rfl (Or.inl rfl) q01))
   q0b)
   (q06 (q0a (q1g (q00 q0e (q00 (pv 6) q04)))))))
   q0b)
   (q02 (q0w (q0h q23 (pv 3) q01 (q0q _))
   (q02 (q0r (i := 7) nd rfl (Or.inl rfl) q01)
   (q02 (q0r (i := 8) nd rfl (Or.inl rfl) (q0j q13 (q1i (q00 (qg8 qbz q01) (q00 (pv 2) (q00 (qg8 qbz q01) (q00 (q0d q4j q01 (pv 2)) (q00 (pv 7) (q00 (q0d q4j q01 (pv 7)) q04))))))) (q0d q0p (q0d q0p (q0d q1b (pv 0) q01) q01) q01) (fun _ _ => rfl)))
   (q02 (q0r (i := 9) nd rfl (Or.inl rfl) (q0j q13 (q1i (q00 (q0d q0p (pv 1) (pv 2)) (q00 (pv 8) q04))) (q0d q0p (q0d q0p (q0d q1b (pv 0) q01) q01) q01) (fun _ _ => rfl)))
   (q02 (q0r (i := 10) nd rfl (Or.inl rfl) (q0j q13 (q1i (q00 q01 (q00 q01 (q00 q01 (q00 q01 (q00 (pv 7) q04)))))) (q0d q0p (q0d q0p (q0d q1b (pv 0) q01) q01) q01) (fun _ _ => rfl)))
   (q06 (q0a (q1g (q00 q0e (q00 (pv 9) (q00 (q0z Dlaw_thing_called (hr.mono (by decide)) q0m (q00 (q0j q13 (q1i (q00 q01 (q00 q01 (q00 q01 q04)))) (q0d q0p (q0d q0p (q0d q1b (pv 0) q01) q01) q01) (fun _ _ => rfl)) (q00 (pv 2) q04))) (q00 (pv 10) q04)))))))))))
   q0b)
   (q02 (q0w (q0h q23 (pv 3) q01 (q0q _))
   (q06 (q0a (q1g (q00 q0e q04))))
   q0b)
   (q02 (q0w (q0h qa8 (pv 3) q01 (q0q _))
   (q06 (q0a (q1g (q00 q0e q04))))
   q0b)
   (q06 (q0a (q1g (q00 q0e (q00 (pv 4) (q00 (pv 5) q04))))))))))), fun way x luck H1 hx hk k1 => ?_⟩
   have one : ∀ {H2 : Hp} {a : Addr} {xs : List V}, Kp [] H1 H2 → H2 a = none → nw H (upd H2 a (.tup xs)) a = some (.tup xs) ∧ Kp [] H (upd H2 a (.tup xs)) := fun {H2 a xs} k2 ha =>
    ⟨q62 q05 (Kp.free (k1.trans k2) ha), (k1.trans k2).trans (Kp.new ha)⟩
   refine ⟨_, rfl, rfl, _, rfl, ite2 (fun _ => ?_) (fun _ => ?_)⟩
   ·refine ⟨_, rfl, _, rfl, _, _, rfl, rfl, (by show (0 : Int) < 16 ∧ (16 : Int) < 1073741824; decide), _, rfl, _, c, rfl, h1, h9, fun p as ss H2 hp S ok k2 => ⟨(by show 3 ≤ sizeLine; decide), fun a ha => ?_⟩⟩
    have kk : Kp [] (nw H1 H2) (nw H (upd H2 a (.tup [.str "start", .str x, .ref p]))) := (nw_l k1).trans (nw_r (Kp.new ha))
    obtain ⟨o1, o2⟩ := one (xs := [.str "start", .str x, .ref p]) k2 ha
    exact q a (.start x ss) _ ⟨p, as, o1, kk.get hp nEm, S.kp kk, by have := ok.1; omega⟩ ⟨hx, ok⟩ o2
   refine ⟨_, rfl, rfl, _, rfl, ite2 (fun _ => ?_) (fun _ => ?_)⟩
   ·refine ⟨_, rfl, _, _, rfl, rfl, .inr ⟨by decide, by decide⟩, _, _, rfl, rfl, (by show (0 : Int) < _; decide), _, rfl, _, _, rfl, rfl, _, _, rfl, rfl, (by show (0 : Int) < _; omega), ?_⟩
    refine ⟨_, rfl, _, _, rfl, rfl, .inr ⟨by decide, by decide⟩, _, _, rfl, rfl, (by show (0 : Int) < _; decide), _, _, rfl, rfl, (by show (0 : Int) < _; decide), rfl, _, rfl, ite2 (fun _ => ?_) (fun _ => ?_)⟩
    ·refine ⟨_, rfl, (by show 2 ≤ sizeLine; decide), fun a ha => ?_⟩
     obtain ⟨o1, o2⟩ := one (xs := [.str "late", .int 100000000000000000000]) (Kp.refl _ _) ha
     exact q a (.late 100000000000000000000) _ o1 trivial o2
    ·refine ⟨_, rfl, (by show 2 ≤ sizeLine; decide), fun a ha => ?_⟩
     obtain ⟨o1, o2⟩ := one (xs := [.str "late", .int (cell * 48271 % 1069 % (k + 1))]) (Kp.refl _ _) ha
     exact q a (.late (cell * 48271 % 1069 % (k + 1))) _ o1 trivial o2
   refine ⟨_, rfl, rfl, _, rfl, ite2 (fun _ => ?_) (fun _ => ?_)⟩
   ·refine ⟨_, rfl, _, rfl, _, rfl, _, rfl, _, _, rfl, rfl, _, rfl, _, rfl, _, _, rfl, rfl, (by show 6 ≤ sizeLine; decide), fun l hl => ⟨_, rfl, _, _, rfl, rfl, .inr ⟨by decide, by decide⟩, _, _, rfl, rfl, (by show (0 : Int) < _; decide), _, _, rfl, rfl, (by show (0 : Int) < _; decide), q4m V.int [-(1 : Int), c, -(2 : Int), 0 - c, 100000000000000000000, 0 - 100000000000000000000] hl (Int.emod_nonneg _ (by decide)) (by show _ < (6 : Int); exact Int.emod_lt_of_pos _ (by decide)) fun odd H2 _ k2 => ?_⟩⟩
    refine ⟨_, rfl, _, rfl, _, _, rfl, rfl, (by show (0 : Int) < _; omega), _, rfl, (by show 2 ≤ sizeLine; decide), fun l' hl' => ⟨_, rfl, _, _, rfl, rfl, .inr ⟨by decide, by decide⟩, _, _, rfl, rfl, (by show (0 : Int) < _; decide), _, _, rfl, rfl, (by show (0 : Int) < _; decide), q4m V.int [k % c, odd] hl' (Int.emod_nonneg _ (by decide)) (by show _ < (2 : Int); exact Int.emod_lt_of_pos _ (by decide)) fun d H3 _ k3 => ?_⟩⟩
    refine ⟨_, rfl, (by show 5 ≤ sizeLine; decide), fun l'' hl'' => ⟨_, rfl, _, _, rfl, rfl, .inr ⟨by decide, by decide⟩, _, _, rfl, rfl, (by show (0 : Int) < _; decide), _, _, rfl, rfl, (by show (0 : Int) < _; decide), q4m V.int [0, 1, 2, 3, 100000000000000000000] hl'' (Int.emod_nonneg _ (by decide)) (by show _ < (5 : Int); exact Int.emod_lt_of_pos _ (by decide)) fun m H4 em k4 => ?_⟩⟩
    have hm : 0 ≤ m := by have := List.mem_of_getElem? em; simp at this; omega
    refine ⟨_, rfl, (by show 3 ≤ sizeLine; decide), fun l3 hl3 => ⟨_, rfl, _, _, rfl, rfl, .inr ⟨by decide, by decide⟩, _, _, rfl, rfl, (by show (0 : Int) < _; decide), _, _, rfl, rfl, (by show (0 : Int) < _; decide), q4m V.int [0, 5, 4] hl3 (Int.emod_nonneg _ (by decide)) (by show _ < (3 : Int); exact Int.emod_lt_of_pos _ (by decide)) fun j H5 ej k5 => ?_⟩⟩
    have hj : 0 ≤ j ∧ j < 6 := by
     have := List.mem_of_getElem? ej
     simp at this
     omega
    refine ⟨_, rfl, j, c, rfl, hj.1, hj.2, h1, h9, fun y H6 hy k6 => ⟨_, rfl, (by show 4 ≤ sizeLine; decide), fun a ha => ?_⟩⟩
    obtain ⟨o1, o2⟩ := one (xs := [.str "fill", .int d, .str y, .int m]) ((((k2.trans k3).trans k4).trans k5).trans k6) ha
    exact q a (.fill d y m) _ o1 ⟨hy, hm⟩ o2
   refine ⟨_, rfl, rfl, _, rfl, ite2 (fun _ => ?_) (fun _ => ?_)⟩
   ·refine ⟨(by show 1 ≤ sizeLine; decide), fun a ha => ?_⟩
    obtain ⟨o1, o2⟩ := one (xs := [.str "stop"]) (Kp.refl _ _) ha
    exact q a .stop _ o1 trivial o2
   refine ⟨_, rfl, _, _, rfl, rfl, _, rfl, ite2 (fun _ => ?_) (fun _ => ?_)⟩
   ·refine ⟨(by show 1 ≤ sizeLine; decide), fun a ha => ?_⟩
    obtain ⟨o1, o2⟩ := one (xs := [.str "wake"]) (Kp.refl _ _) ha
    exact q a .wake _ o1 trivial o2
   refine ⟨_, rfl, _, rfl, (by show 3 ≤ sizeLine; decide), fun a ha => ?_⟩
   obtain ⟨o1, o2⟩ := one (xs := [.str "go", .str x, .str luck]) (Kp.refl _ _) ha
   exact q a (.go x luck) _ o1 hk o2
  refine ⟨_, q02 (q0r (i := 3) nd rfl (Or.inl rfl) (q0d q0p (q0d q0p (q0d q1b (pv 0) q01) q01) q01)) (q02 (q0r (i := 4) nd rfl (Or.inl rfl) (q0z Dlaw_work_called (hr.mono (by decide)) q0m (q00 (q0j q13 (q1i (q00 q01 (q00 q01 (q00 q01 (q00 q01 (q00 q01 (q00 q01 (q00 q01 (q00 q01 q04))))))))) (q0d q0p (q0d q0p (q0d q1b (q0d q24 (pv 0) (pv 1)) q01) q01) q01) (fun _ _ => rfl)) (q00 (pv 2) q04)))) (q02 (q0r (i := 5) nd rfl (Or.inl rfl) (q0j q13 (q1i (q00 q0e (q00 q0e (q00 q0e (q00 q0e (q00 q0e (q00 q0e (q00 q0e (q00 q0e q04))))))))) (q0d q0p (q0d q0p (q0d q1b (pv 0) q01) q01) q01) (fun _ _ => rfl))) (q02 (q0w (q0h q23 (q0d q0p (q0d q0p (q0d q1b (pv 0) q01) q01) q01) q01 (q0q _))
   (q06 (q0r (i := 4) nd rfl (Or.inl rfl) q0e))
   q0b) h4))), ?_⟩
  refine ⟨_, rfl, _, _, rfl, rfl, .inr ⟨by decide, by decide⟩, _, _, rfl, rfl, (by show (0 : Int) < _; decide), _, _, rfl, rfl, (by show (0 : Int) < _; decide), ?_⟩
  refine qcs fun way _ => ?_
  refine ⟨(by show 8 ≤ sizeLine; decide), fun l hl => ⟨_, rfl, _, rfl, _, _, rfl, rfl, _, _, rfl, rfl, .inr ⟨by decide, by decide⟩, _, _, rfl, rfl, (by show (0 : Int) < _; decide), _, _, rfl, rfl, (by show (0 : Int) < _; decide), q4m V.int [0, 1, 2, 0, 1, 3, 4, 5] hl (Int.emod_nonneg _ (by decide)) (by show _ < (8 : Int); exact Int.emod_lt_of_pos _ (by decide)) fun j H2 ej k2 => ?_⟩⟩
  have hj : 0 ≤ j ∧ j < 6 := by
   have := List.mem_of_getElem? ej
   simp at this
   omega
  refine ⟨_, rfl, j, c, rfl, hj.1, hj.2, h1, h9, fun H3 k3 => ?_⟩
  refine ⟨(by show 8 ≤ sizeLine; decide), fun l' hl' => ⟨_, rfl, _, _, rfl, rfl, .inr ⟨by decide, by decide⟩, _, _, rfl, rfl, (by show (0 : Int) < _; decide), _, _, rfl, rfl, (by show (0 : Int) < _; decide), q4m V.str ["ok", "ok", "ok", "lost", "deaf", "ok", "lost", "deaf"] hl' (Int.emod_nonneg _ (by decide)) (by show _ < (8 : Int); exact Int.emod_lt_of_pos _ (by decide)) fun luck H4 el k4 => ?_⟩⟩
  have hk : luck = "ok" ∨ luck = "lost" ∨ luck = "deaf" := by
   have := List.mem_of_getElem? el
   simp only [List.mem_cons, List.not_mem_nil, or_false] at this
   rcases this with z | z | z | z | z | z | z | z
   ·exact .inl z
   ·exact .inl z
   ·exact .inl z
   ·exact .inr (.inl z)
   ·exact .inr (.inr z)
   ·exact .inl z
   ·exact .inr (.inl z)
   ·exact .inr (.inr z)
  have kk := (k2.trans k3).trans k4
  refine ⟨_, rfl, _, _, rfl, rfl, .inr ⟨by decide, by decide⟩, _, _, rfl, rfl, (by show (0 : Int) < _; decide), _, _, rfl, rfl, (by show (0 : Int) < _; decide), rfl, _, rfl, ite2 (fun _ => ?_) (fun _ => ?_)⟩
  ·exact key way "nobody" luck H4 (by unfold q3p; simp) hk kk
  ·exact key way _ luck H4 (q4z c hj.1 hj.2) hk kk
end
end K08
end
section
namespace K08
open PySem L2
section
variable {P : Program} {w : World} {K : PySem.W.Frag} {mg : Str → Option Value} {base : Heap}
theorem q47 {H H2 H5 : Hp} {dl a : Addr} {ad : List Addr} {ds : List Deed} {d : Deed} (kp : Kp [] H (del H2 dl)) (hl : H2 dl = some (.lst (ad.map V.ref))) (D : Deeds (del H2 dl) ad ds) (k : Kp [] H2 H5) (hd : q1y (del H5 dl) a d) :
  H5 dl = some (.lst (ad.map V.ref)) ∧ (upd H5 dl (.lst (ad.map V.ref ++ [V.ref a]))) dl = some (.lst ((ad ++ [a]).map V.ref)) ∧ Deeds (del (upd H5 dl (.lst (ad.map V.ref ++ [V.ref a]))) dl) (ad ++ [a]) (ds ++ [d]) ∧ Kp [] H (del (upd H5 dl (.lst (ad.map V.ref ++ [V.ref a]))) dl) := by
 refine ⟨k.get hl nEm, by rw [q05, List.map_append]; rfl, ?_, ?_⟩
 ·rw [q1k]
  exact (D.same (Kp.dl k)).app (.one hd)
 ·rw [q1k]
  exact kp.trans (Kp.dl k)
theorem qe5 (ns : List Int) (lo hi : Option Int) : ∃ ms : List Int, cutV (ns.map V.int) lo hi = ms.map V.int ∧ ms.length ≤ ns.length := by
 unfold cutV
 refine ⟨(ns.drop (HT.sIx (ns.map V.int).length 0 lo)).take (HT.sIx (ns.map V.int).length (ns.map V.int).length hi - HT.sIx (ns.map V.int).length 0 lo), ?_, ?_⟩
 ·rw [List.map_take, List.map_drop]
 ·rw [List.length_take, List.length_drop]
  omega
def qcq (K : PySem.W.Frag) : Sp := fun vs H Q _ => ∃ (a : Addr) (ns : List Int) (c : Int), vs = [.ref a, .int c] ∧ Scr K H a ns ∧ ns.length ≤ 63 ∧ 1 ≤ c ∧ c ≤ 9 ∧ ∀ p ad ds H', H p = none → H' p = some (.lst (ad.map V.ref)) → Deeds H' ad ds → ds.length ≤ 65 → (∀ d ∈ ds, q2r c d) → Kp [] H H' → Q (.ref p) H'
def qc8 : Sp := fun vs H Q _ => ∃ (l : Addr) (ad : List Addr) (ds : List Deed), vs = [.ref l] ∧ H l = some (.lst (ad.map V.ref)) ∧ Deeds H ad ds ∧ ds.length ≤ 800 ∧ ∀ p ad' H', H p = none → H' p = some (.lst (ad'.map V.ref)) → Deeds H' ad' ds → Kp [] H H' → Q (.ref p) H'
theorem qd4 : FnScope ["_law_deeds", "_law_made", "_law_deed"] ["_law_deeds"] (q03 q9z) := ⟨rfl, rfl, rfl, by decide +kernel, rfl, by decide +kernel, by decide +kernel⟩
def qjd : Deed → Str
 | .start _ _ => "start" | .go _ _ => "go" | .late _ => "late" | .fill _ _ _ => "fill" | .stop => "stop" | .wake => "wake"
theorem q1y.head {H : Hp} {a : Addr} {d : Deed} (h : q1y H a d) : ∃ xs, H a = some (.tup (.str (qjd d) :: xs)) := by
 cases d with
 | start x ss => obtain ⟨l, as, h1, _⟩ := h; exact ⟨_, h1⟩
 | go x l => exact ⟨_, h⟩
 | late i => exact ⟨_, h⟩
 | fill d x n => exact ⟨_, h⟩
 | stop => exact ⟨_, h⟩
 | wake => exact ⟨_, h⟩
theorem qg1 {f : Addr} {fd : FuncData} (Fn : Fun K "_law_copy" "_law_copy" q9z f fd) (B : Blt mg) : FnOk P w K mg base CX0 1 f fd ["_law_deeds"] qc8 := by
 refine Fn.ok qd4 (fun vs H Q E h => ?_) (fun cdv A outer s H vs Q E hr h => ?_)
 ·obtain ⟨l, ad, ds, rfl, _⟩ := h
  rfl
 ·obtain ⟨l, ad, ds, rfl, hl, D, hz, q⟩ := h
  have nd := qd4.nd
  refine ⟨_, (q02 (q0r (i := 1) nd rfl (Or.inl rfl) (q1i q04))
   (q02 (q25 PassesOwn.never rfl (q1j (pv 0)) (q10 (i := 2) nd rfl (Or.inl rfl))
   (q06 (q0w (q0h q23 (q0j q0i (pv 2) q01 (fun _ _ => rfl)) q0e (q0q _))
   (q06 (q21 (q51 PySem.F.plainAttrs_list PySem.F.slot_list_append PySem.F.type_list_append q1e (pv 1) (q00 (q1g (q00 q0e (q00 (q0j q0i (pv 2) q01 (fun _ _ => rfl)) (q00 (q27 q4h rfl B.list_ PyProof.Rows.boot_list (q00 (q0j q0i (pv 2) q01 (fun _ _ => rfl)) q04)) q04)))) q04))))
   (q06 (q21 (q51 PySem.F.plainAttrs_list PySem.F.slot_list_append PySem.F.type_list_append q1e (pv 1) (q00 (pv 2) q04)))))))
   (q06 (q0a (pv 1))))), ?_⟩
  refine ⟨(by show 0 ≤ sizeLine; decide), fun dl hdl => ?_⟩
  refine ⟨_, rfl, l, rfl, ⟨_, SqL.of ((Kp.new (ex := []) hdl).get hl nEm)⟩, ?_⟩
  refine q1u (xs := ad.map V.ref) (fun i σ H2 => ∃ (v2 : Option V) (ad' : List Addr), σ = [some (.ref l), some (.ref dl), v2] ∧ Deeds (del H2 dl) ad' (ds.take i) ∧ H2 dl = some (.lst (ad'.map V.ref)) ∧ Kp [] H (del H2 dl)) ?_ ?_ ?_ ?_
  ·exact ⟨none, [], rfl, Deeds.nil _, q05, by rw [q1k]; exact Kp.dof (Kp.refl _ _) hdl⟩
  ·rintro i σ H2 hi ⟨v2, ad', rfl, D2, hl2, kp⟩
   exact SqL.of ((kp.trans q1n).get hl nEm)
  ·rintro i x σ H2 hx ⟨v2, ad', rfl, D2, hl2, kp⟩
   rw [List.getElem?_map] at hx
   cases ea : ad[i]? with
   | none => rw [ea] at hx; cases hx
   | some a =>
    rw [ea] at hx
    obtain rfl : V.ref a = x := Option.some.inj hx
    have hi : i < ds.length := by rw [← D.len]; exact (List.getElem?_eq_some_iff.mp ea).1
    have ed : ds[i]? = some ds[i] := List.getElem?_eq_getElem hi
    have hdA := (D.at_ i a _ ea ed).kp (kp.trans q1n)
    have hdel := (D.at_ i a _ ea ed).kp kp
    have et := q2p ed
    have l2 : ad'.length = i := by rw [D2.len, List.length_take]; omega
    have sz : (ad'.map V.ref).length < sizeLine := by rw [List.length_map, l2]; exact q0u (by omega)
    generalize ds[i] = d at hdA hdel et
    obtain ⟨xs, hx0⟩ := hdA.head
    refine ⟨_, rfl, a, _, _, _, rfl, rfl, SqT.of hx0, q07 (j := 0) rfl, rfl, _, rfl, ?_⟩
    by_cases hs : ∃ x ss, d = .start x ss
    ·obtain ⟨x, ss, rfl⟩ := hs
     obtain ⟨p, as, h1, h2, h3, h4⟩ := hdel
     have h1' := q1n.get h1 nEm
     have h2' := q1n.get h2 nEm
     refine iteD rfl ?_
     refine ⟨_, rfl, .inl ⟨rfl, _, SqL.of hl2⟩, _, rfl, a, _, _, _, rfl, rfl, SqT.of h1', q07 (j := 1) rfl, _, rfl, a, _, _, _, rfl, rfl, SqT.of h1', q07 (j := 2) rfl, p, _, rfl, .inl (SqL.of h2'), fun lc hlc => ⟨(by show 3 ≤ sizeLine; decide), fun t ht => ?_⟩⟩
     have kc : Kp [] H2 (upd (upd H2 lc (.lst (as.map V.ref))) t (.tup [.str "start", .str x, .ref lc])) := (Kp.new hlc).trans (Kp.new ht)
     have hd : q1y (del (upd (upd H2 lc (.lst (as.map V.ref))) t (.tup [.str "start", .str x, .ref lc])) dl) t (.start x ss) := by
      have ht0 : H2 t = none := Kp.free (Kp.new hlc) ht
      have nl : lc ≠ t := fun z => by rw [← z, q05] at ht; cases ht
      refine ⟨lc, as, q2l q05 (fun z => by rw [z, hl2] at ht0; cases ht0), q2l (by rw [q08 nl]; exact q05) (fun z => by rw [z, hl2] at hlc; cases hlc), h3.kp (Kp.dl kc), h4⟩
     obtain ⟨p1, p2, p3, p4⟩ := q47 kp hl2 D2 kc hd
     refine ⟨dl, _, _, rfl, rfl, p1, sz, ?_⟩
     exact ⟨_, ad' ++ [t], rfl, by rw [et]; exact p3, p2, p4⟩
    ·refine q1o ?_ ?_
     ·intro z
      cases d with
      | start x ss => exact hs ⟨x, ss, rfl⟩
      | go _ _ => exact absurd (V.str.inj z) (show ¬ (("go" : Str) = "start") by decide +kernel)
      | late _ => exact absurd (V.str.inj z) (show ¬ (("late" : Str) = "start") by decide +kernel)
      | fill _ _ _ => exact absurd (V.str.inj z) (show ¬ (("fill" : Str) = "start") by decide +kernel)
      | stop => exact absurd (V.str.inj z) (show ¬ (("stop" : Str) = "start") by decide +kernel)
      | wake => exact absurd (V.str.inj z) (show ¬ (("wake" : Str) = "start") by decide +kernel)
     refine ⟨_, rfl, .inl ⟨rfl, _, SqL.of hl2⟩, _, rfl, dl, _, _, rfl, rfl, hl2, sz, ?_⟩
     refine ⟨_, ad' ++ [a], rfl, ?_, by rw [q05, List.map_append]; rfl, by rw [q1k]; exact kp⟩
     rw [et, q1k]
     exact D2.app (.one hdel)
  ·rintro σ H2 ⟨v2, ad', rfl, D2, hl2, kp⟩
   have e : ds.take (ad.map V.ref).length = ds := by rw [List.length_map, D.len, List.take_length]
   rw [e] at D2
   exact ⟨_, rfl, q dl ad' H2 hdl hl2 (D2.same q1n) (kp.trans q1n)⟩
def q6i : Sp := fun vs H Q _ => ∃ (l : Addr) (as : List Addr) (Ts : List Tb), vs = [.ref l] ∧ H l = some (.lst (as.map V.ref)) ∧ Stocks H as Ts ∧ Ts.length ≤ 900 ∧ ∀ p cas H', H p = none → H' p = some (.lst (cas.map V.ref)) → Stocks H' cas Ts → Kp [] H H' → (cas.Nodup ∧ ∀ a ∈ cas, H a = none) → Q (.ref p) H'
theorem q71 : FnScope ["_law_stocks"] ["_law_stocks"] (q03 q4e) := ⟨rfl, rfl, rfl, by decide +kernel, rfl, by decide +kernel, by decide +kernel⟩
theorem qbt {f : Addr} {fd : FuncData} (Fn : Fun K "_law_copied" "_law_copied" q4e f fd) (B : Blt mg) : FnOk P w K mg base CX0 1 f fd ["_law_stocks"] q6i := by
 refine Fn.ok q71 (fun vs H Q E h => ?_) (fun cdv A outer s H vs Q E hr h => ?_)
 ·obtain ⟨l, as, Ts, rfl, _⟩ := h
  rfl
 ·obtain ⟨l, as, Ts, rfl, hl, S, hz, q⟩ := h
  have nd := q71.nd
  have hte : ∀ (σ : List (Option V)) (H : Hp) (Q : VK) (a : Addr) (kvs : List (Key × V)), σ[0]? = some (some (V.ref a)) → H a = some (.dK kvs) → (∀ p, H p = none → Q (.ref p) (upd H p (.dK kvs))) → tCB (fun xs H Q => ∃ a kvs, xs = [V.ref a] ∧ Rd H a (.dK kvs) ∧ ∀ p, H p = none → Q (.ref p) (upd H p (.dK kvs))) (qi2 (tVar 0) tNil) σ H Q :=
   fun σ H Q a kvs h1 h2 h3 => ⟨_, h1, a, kvs, rfl, .inl h2, h3⟩
  refine ⟨_, (q06 (q0a (q46 (NB := ["_law_things"]) (ix := [none]) rfl ⟨rfl, rfl, by decide +kernel, by decide +kernel, trivial, rfl, rfl, rfl, trivial⟩ (q1j (pv 0)) (fun _ _ _ _ _ => (q10 (i := 0) (show (["_law_things"] : List Str).Nodup by decide +kernel) rfl (Or.inl rfl))) (fun _ _ _ _ _ => q4x) (fun _ _ _ _ _ => (q27 q7f rfl B.dict PyProof.Rows.boot_dict (q00 (pv 0) q04)))))), ?_⟩
  exact qcu (j := 0) rfl hl S hz hte q
end
section
variable {P : Program} {w : World} {K : PySem.W.Frag} {mg : Str → Option Value} {base : Heap}
theorem q98 : FnScope ["_law_script", "_law_count", "_law_deeds", "_law_k", "_law_steps", "_law_cells"] ["_law_script", "_law_count"] (q03 q5x) := ⟨rfl, rfl, rfl, by decide +kernel, rfl, by decide +kernel, by decide +kernel⟩
theorem qec {f : Addr} {fd : FuncData} (Fn : Fun K "_law_drawn" "_law_drawn" q5x f fd) (B : Blt mg) (Dlaw_at : Df P w K mg base CX0 1 "_law_at" ["_law_script", "_law_k"] (spAt K)) (Dlaw_work_called : Df P w K mg base CX0 1 "_law_work_called" ["_law_j", "_law_count"] (spNm q3t))
  (Dlaw_steps_of : Df P w K mg base CX0 2 "_law_steps_of" ["_law_cell", "_law_count"] q85) (Dlaw_deed_of : Df P w K mg base CX0 3 "_law_deed_of" ["_law_cell", "_law_k", "_law_count"] qfi) : FnOk P w K mg base CX0 4 f fd ["_law_script", "_law_count"] (qcq K) := by
 refine Fn.ok q98 (fun vs H Q E h => ?_) (fun cdv A outer s H vs Q E hr h => ?_)
 ·obtain ⟨a, ns, c, rfl, _⟩ := h
  rfl
 ·obtain ⟨a, ns, c, rfl, hS, hn, h1, h9, q⟩ := h
  have nd := q98.nd
  refine ⟨_, (q02 (q0r (i := 2) nd rfl (Or.inl rfl) (q1i q04))
   (q02 (q25 PassesOwn.never rfl (q2j rfl B.range (q00 q01 q04)) (q10 (i := 3) nd rfl (Or.inl rfl))
   (q02 (q0r (i := 4) nd rfl (Or.inl rfl) (q0z Dlaw_steps_of (hr.mono (by decide)) q0m (q00 (q0z Dlaw_at (hr.mono (by decide)) q0m (q00 (pv 0) (q00 (q0d q24 (pv 3) q01) q04))) (q00 (pv 1) q04))))
   (q06 (q21 (q51 PySem.F.plainAttrs_list PySem.F.slot_list_append PySem.F.type_list_append q1e (pv 2) (q00 (q1g (q00 q0e (q00 (q0z Dlaw_work_called (hr.mono (by decide)) q0m (q00 (pv 3) (q00 (pv 1) q04))) (q00 (pv 4) q04)))) q04))))))
   (q02 (q0r (i := 5) nd rfl (Or.inl rfl) (q8v qbe (pv 0) (q8h q01) (q8h q01)))
   (q02 (q25 PassesOwn.never rfl (q2j rfl B.range (q00 (q0f q0k rfl B.len PySem.boot_len (q00 (pv 5) q04)) q04)) (q10 (i := 3) nd rfl (Or.inl rfl))
   (q06 (q21 (q51 PySem.F.plainAttrs_list PySem.F.slot_list_append PySem.F.type_list_append q1e (pv 2) (q00 (q0z Dlaw_deed_of (hr.mono (by decide)) q0m (q00 (q0d q24 (q0j q13 (pv 5) (pv 3) (fun _ _ => rfl)) (q0d q1b q01 (pv 3))) (q00 (pv 3) (q00 (pv 1) q04)))) q04)))))
   (q06 (q0a (pv 2))))))), ?_⟩
  refine ⟨(by show 0 ≤ sizeLine; decide), fun dl hdl => ?_⟩
  refine ⟨_, rfl, (by decide), (by decide), ?_⟩
  refine q2i (lo := 0) (n := (2 : Int).toNat) (fun i σ H2 => ∃ (v3 v4 : Option V) (ad : List Addr) (ds : List Deed), σ = [some (.ref a), some (.int c), some (.ref dl), v3, v4, none] ∧ Deeds (del H2 dl) ad ds ∧ ds.length = i ∧ (∀ d ∈ ds, q2r c d) ∧ H2 dl = some (.lst (ad.map V.ref)) ∧ Kp [] H (del H2 dl)) ?_ ?_ ?_
  ·exact ⟨none, none, [], [], rfl, Deeds.nil _, rfl, fun d hd => by simp at hd, q05, by rw [q1k]; exact Kp.dof (Kp.refl _ _) hdl⟩
  ·rintro i σ H2 hi ⟨v3, v4, ad, ds, rfl, D2, lD, ok, hl2, kp⟩
   have hi2 : i < 2 := hi
   have e2 : (0 + (i : Int) + 2) = ((i + 2 : Nat) : Int) := by omega
   refine ⟨_, rfl, _, rfl, _, _, rfl, rfl, a, ns, i + 2, (by show [V.ref a, V.int (0 + (i : Int) + 2)] = _; rw [e2]), (hS.same (kp.trans q1n)).sq, _, rfl, _, c, rfl, h1, h9, fun p as ss H3 hp S okS k3 => ?_⟩
   refine ⟨_, rfl, .inl ⟨rfl, _, SqL.of (k3.get hl2 nEm)⟩, _, rfl, _, rfl, _, c, rfl, (by omega), (by omega), h1, h9, fun H4 k4 => ⟨_, rfl, (by show 3 ≤ sizeLine; decide), fun t ht => ?_⟩⟩
   have k5 : Kp [] H2 (upd H4 t (.tup [.str "start", .str (q3t c (0 + (i : Int))), .ref p])) := (k3.trans k4).trans (Kp.new ht)
   have hd : q1y (del (upd H4 t (.tup [.str "start", .str (q3t c (0 + (i : Int))), .ref p])) dl) t (.start (q3t c (0 + (i : Int))) ss) := by
    have kk : Kp [] (nw H2 H3) (del (upd H4 t (.tup [.str "start", .str (q3t c (0 + (i : Int))), .ref p])) dl) := (qfn hl2).trans (Kp.dl (k4.trans (Kp.new ht)))
    refine ⟨p, as, q2l q05 (fun z => ?_), kk.get hp nEm, S.kp kk, by have := okS.1; omega⟩
    have := (k3.trans k4).get hl2 nEm
    rw [z, this] at ht
    cases ht
   obtain ⟨p1, p2, p3, p4⟩ := q47 kp hl2 D2 k5 hd
   refine ⟨dl, _, _, rfl, rfl, p1, (by rw [List.length_map, D2.len]; exact q0u (by omega)), ?_⟩
   refine ⟨_, _, ad ++ [t], ds ++ [.start (q3t c (0 + (i : Int))) ss], rfl, p3, by simp [lD], fun d' hd' => ?_, p2, p4⟩
   rw [List.mem_append] at hd'
   rcases hd' with z | z
   ·exact ok d' z
   ·simp at z
    subst z
    exact ⟨q4z c (by omega) (by omega), okS⟩
  ·rintro σ H2 ⟨v3, v4, ad, ds, rfl, D2, lD, ok, hl2, kp⟩
   have lD2 : ds.length = 2 := lD
   have S2 := hS.same (kp.trans q1n)
   refine ⟨_, rfl, _, rfl, _, rfl, a, _, rfl, S2.sq, fun cl hcl => ?_⟩
   obtain ⟨ms, em, lm⟩ := qe5 ns (some 4) (some 44)
   rw [em]
   refine abs (fun H3 => Kp [] H2 H3 ∧ H3 cl = some (.lst (ms.map V.int))) ⟨Kp.new hcl, q05⟩ ?_
   rintro H3 ⟨k3, hcl3⟩
   have el : (ms.map V.int).length = ms.length := List.length_map ..
   have ncl : cl ≠ dl := fun z => by rw [z, hl2] at hcl; cases hcl
   refine ⟨_, rfl, cl, _, rfl, .inl (SqL.of hcl3), (ms.length : Int), by rw [el], by omega, by omega, ?_⟩
   refine q2i (lo := 0) (n := ((ms.length : Int)).toNat) (fun i σ H4 => ∃ (v3 v4 : Option V) (ad : List Addr) (ds : List Deed), σ = [some (.ref a), some (.int c), some (.ref dl), v3, v4, some (.ref cl)] ∧ Deeds (del H4 dl) ad ds ∧ ds.length = 2 + i ∧ (∀ d ∈ ds, q2r c d) ∧ H4 dl = some (.lst (ad.map V.ref)) ∧ Kp [] H (del H4 dl) ∧ del H4 dl cl = some (.lst (ms.map V.int))) ?_ ?_ ?_
   ·exact ⟨_, _, ad, ds, rfl, D2.same (Kp.dl k3), by omega, ok, k3.get hl2 nEm, kp.trans (Kp.dl k3), q2l hcl3 ncl⟩
   ·rintro i σ H4 hi ⟨v3, v4, ad, ds, rfl, D4, lD, ok, hl4, kp, hcl4⟩
    have him : i < ms.length := by omega
    have hat : atI (ms.map V.int) (0 + (i : Int)) = some (.int ms[i]) := by
     have := q07 (xs := ms.map V.int) (j := i) (v := .int ms[i]) (by rw [List.getElem?_map, List.getElem?_eq_getElem him]; rfl)
     rw [← this]
     congr 1
     omega
    refine ⟨_, rfl, .inl ⟨rfl, _, SqL.of hl4⟩, _, rfl, _, rfl, cl, _, _, _, rfl, rfl, SqL.of (q1n.get hcl4 nEm), hat, _, rfl, _, _, rfl, rfl, .inl ⟨by decide, by decide⟩, _, _, rfl, rfl, _, rfl, _, rfl, _, _, c, rfl, (by omega), h1, h9, fun t d H5 hd okd k5 => ?_⟩
    obtain ⟨p1, p2, p3, p4⟩ := q47 kp hl4 D4 k5 (hd.kp (qfn hl4))
    refine ⟨dl, _, _, rfl, rfl, p1, (by rw [List.length_map, D4.len]; exact q0u (by omega)), ?_⟩
    refine ⟨_, _, ad ++ [t], ds ++ [d], rfl, p3, by simp [lD]; omega, fun d' hd' => ?_, p2, p4, by rw [q1k]; exact (Kp.dl k5).get hcl4 nEm⟩
    rw [List.mem_append] at hd'
    rcases hd' with z | z
    ·exact ok d' z
    ·simp at z
     subst z
     exact okd
   ·rintro σ H4 ⟨v3, v4, ad, ds, rfl, D4, lD, ok, hl4, kp, _⟩
    exact ⟨_, rfl, q dl ad ds H4 hdl hl4 (D4.same q1n) (by omega) ok (kp.trans q1n)⟩
end
end K08
end
section
namespace K08
open PySem L2
section
variable {P : Program} {w : World} {K : PySem.W.Frag} {mg : Str → Option Value} {base : Heap}
theorem q7g (rows : List (Str × Int)) : kvOf rows = inrs (rows.map fun q => (q.1, V.int q.2)) := by unfold kvOf inrs; rw [List.map_map]; rfl
def unI : Str × V → Str × Int
 | (x, .int i) => (x, i)
 | (x, _) => (x, 0)
theorem qg0 (rows : List (Str × Int)) : (rows.map fun q => (q.1, V.int q.2)).map unI = rows := by
 rw [List.map_map]
 exact (List.map_congr_left fun q _ => rfl).trans (List.map_id _)
theorem qdf {rows : List (Str × Int)} {rv : List (Str × V)} (h : rv.Perm (rows.map fun q => (q.1, V.int q.2))) : (rv.map unI).Perm rows ∧ rv = (rv.map unI).map fun q => (q.1, V.int q.2) := by
 refine ⟨by have := h.map unI; rwa [qg0] at this, ?_⟩
 rw [List.map_map]
 refine ((List.map_congr_left fun q hq => ?_).trans (List.map_id _)).symm
 obtain ⟨q', _, rfl⟩ := List.mem_map.mp (h.mem_iff.mp hq)
 rfl
theorem qbc {rows : List (Str × Int)} (h : q2x (rows.map fun q => (q.1, V.int q.2))) : q2x rows := by
 unfold q2x at h ⊢
 rw [List.pairwise_map] at h
 exact h
def q6k (rows : List (Str × Int)) : List (Str × Int) := rows.filter fun q => decide (0 < q.2)
def q2a (H : Hp) (bs : List Addr) (rows : List (Str × Int)) : Prop := bs.length = rows.length ∧ ∀ (j : Nat) b (row : Str × Int), bs[j]? = some b → rows[j]? = some row → H b = some (.tup [.str row.1, .int row.2])
theorem q2a.same {H H' : Hp} {bs : List Addr} {rows : List (Str × Int)} (h : q2a H bs rows) (k : Kp [] H H') : q2a H' bs rows := ⟨h.1, fun j b row e1 e2 => k.get (h.2 j b row e1 e2) nEm⟩
theorem q2a.tk {H H' : Hp} {bs : List Addr} {rows : List (Str × Int)} (h : q2a H bs rows) (k : TK H H') : q2a H' bs rows := ⟨h.1, fun j b row e1 e2 => k _ _ (h.2 j b row e1 e2)⟩
theorem q2a.snoc {H : Hp} {bs : List Addr} {rows : List (Str × Int)} {b : Addr} {row : Str × Int} (h : q2a H bs rows) (hb : H b = some (.tup [.str row.1, .int row.2])) : q2a H (bs ++ [b]) (rows ++ [row]) := by
 refine ⟨by simp [h.1], fun i c q e1 e2 => ?_⟩
 by_cases hi : i < bs.length
 ·rw [List.getElem?_append_left hi] at e1
  rw [List.getElem?_append_left (by rw [← h.1]; exact hi)] at e2
  exact h.2 i c q e1 e2
 ·have e : i = bs.length := by
   have := (List.getElem?_eq_some_iff.mp e1).1
   simp at this
   omega
  subst e
  rw [List.getElem?_append_right (Nat.le_refl _)] at e1
  rw [h.1, List.getElem?_append_right (Nat.le_refl _)] at e2
  simp at e1 e2
  subst e1 e2
  exact hb
def q65 (Cd : Addr) : Sp := fun vs H Q _ => ∃ (p s d : Addr) (rows : List (Str × Int)) (F : Fb), vs = [.ref p] ∧ DeskAt Cd H p s d (kvOf rows) F ∧ rows.length < 64 ∧ ∀ q bs rows' H', H q = none → H' q = some (.lst (bs.map V.ref)) → rows'.Perm rows → q2x rows' → q2a H' bs (q6k rows') → Kp [] H H' → Q (.ref q) H'
theorem qcz : FnScope ["desk"] ["desk"] (q03 qa0) := ⟨rfl, rfl, rfl, by decide +kernel, rfl, by decide +kernel, by decide +kernel⟩
theorem qaq (rows : List (Str × Int)) (q : Str × Int) : q6k (rows ++ [q]) = q6k rows ++ (if 0 < q.2 then [q] else []) := by
 unfold q6k
 rw [List.filter_append]
 by_cases h : 0 < q.2
 ·rw [if_pos h, List.filter_cons, if_pos (decide_eq_true h)]; rfl
 ·rw [if_neg h, List.filter_cons, if_neg (by simpa using h)]; rfl
theorem qgw {f Cd : Addr} {fd : FuncData} (Fn : Fun K "things_at" "things_at" qa0 f fd) (Td : Txt K mg Cd) (B : Blt mg) : FnOk P w K mg base CX0 1 f fd ["desk"] (q65 Cd) := by
 refine Fn.ok qcz (fun vs H Q E h => ?_) (fun cdv A outer sh H vs Q E hr h => ?_)
 ·obtain ⟨p, s, d, rows, F, rfl, _⟩ := h
  rfl
 ·obtain ⟨p, s, d, rows, F, rfl, D, h2, k⟩ := h
  have nd := qcz.nd
  obtain ⟨dx, hp⟩ := D.ob
  refine ⟨_, (q06 (q0a (q46 (NB := ["thing", "many"]) (ix := [none, none]) rfl ⟨rfl, rfl, by decide +kernel, by decide +kernel, trivial, rfl, rfl, rfl, trivial⟩ (q1j (q0f (q7d rfl) rfl B.sorted PyProof.Rows.boot_sorted (q00 (qbn PySem.F.plainAttrs_dict PySem.F.slot_dict_items PySem.F.type_dict_items q6a (q12 (pv 0) rfl)) q04))) (fun _ _ _ _ _ => (qg7 (K := K) (n := 2) rfl rfl (q4o (q10 (i := 0) (show (["thing", "many"] : List Str).Nodup by decide +kernel) rfl (Or.inl rfl)) (q4o (q10 (i := 1) (show (["thing", "many"] : List Str).Nodup by decide +kernel) rfl (Or.inl rfl)) qbu)))) (fun _ _ _ _ _ => (qhh (q0h qdz (pv 1) q01 (q0q _)))) (fun _ _ _ _ _ => (q1g (q00 (pv 0) (q00 (pv 1) q04))))))), ?_⟩
  refine ⟨_, rfl, p, Cd, dx, _, _, rfl, hp, Td.cl, Td.nS, q3i _ _, .inr (.inr (.inl ⟨rfl, .inl ⟨_, D.st⟩⟩)), s, _, rfl, rfl, D.st, trivial, fun v hv => ?_⟩
  have kv : Kp [] H (upd H v (.ext fun h => h.IsItemsView v s)) := Kp.new hv
  refine ⟨v, s, rows.map fun q => (q.1, V.int q.2), rfl, q05, (by rw [← q7g]; exact kv.get D.st nEm), by rw [List.length_map]; exact h2, fun q as rv H1 hq hq1 _ pm lt It kp1 => ?_⟩
  obtain ⟨pm', ev⟩ := qdf pm
  rw [ev] at lt It
  have lt' := qbc lt
  rw [← q7g] at It
  have k := fun D0 bs H2 hDH hy th kk => k D0 bs (rv.map unI) H2 hDH hy pm' lt' th kk
  have l64 : (rv.map unI).length < 64 := by rw [pm'.length_eq]; exact h2
  generalize rv.map unI = rows at It k l64
  have kpA := kv.trans kp1
  have lI : as.length = rows.length := by rw [It.len]; unfold kvOf; rw [List.length_map]
  refine ⟨q, rfl, ⟨_, SqL.of hq1⟩, fun D0 hD => ?_⟩
  refine q32 (xs := as.map V.ref) (fun i σ ys H2 => ∃ (v0 v1 : Option V) (bs : List Addr), σ = [v0, v1] ∧ ys = bs.map V.ref ∧ q2a H2 bs (q6k (rows.take i)) ∧ Kp [] H1 H2 ∧ H2 D0 = some (.lst ys)) ?_ ?_ ?_ ?_
  ·exact ⟨none, none, [], rfl, rfl, ⟨rfl, fun j b row e => by simp at e⟩, Kp.new hD, q05⟩
  ·rintro i σ ys H2 hi ⟨v0, v1, bs, rfl, ey, th, kp, hy⟩
   exact ⟨SqL.of (kp.get hq1 nEm), hy⟩
  ·rintro i x σ ys H2 hx ⟨v0, v1, bs, rfl, ey, th, kp, hy⟩
   rw [List.getElem?_map] at hx
   cases ea : as[i]? with
   | none => rw [ea] at hx; cases hx
   | some a =>
    rw [ea] at hx
    obtain rfl : V.ref a = x := Option.some.inj hx
    have hi : i < rows.length := by rw [← lI]; exact (List.getElem?_eq_some_iff.mp ea).1
    have er : rows[i]? = some rows[i] := List.getElem?_eq_getElem hi
    have ha := kp.get (It.at_ i a _ ea (show (kvOf rows)[i]? = some ((Sum.inr rows[i].1 : Key), V.int rows[i].2) by unfold kvOf; rw [List.getElem?_map, er]; rfl)) (by simp)
    have eS := qaq (rows.take i) rows[i]
    rw [← q2p er] at eS
    generalize rows[i] = row at ha eS er
    obtain ⟨x, m⟩ := row
    refine ⟨a, _, rfl, SqT.of ha, rfl, _, _, rfl, _, _, rfl, rfl, ?_⟩
    refine ⟨_, rfl, _, _, rfl, rfl, _, rfl, ?_⟩
    by_cases hm : 0 < m
    ·refine iteD hm ?_
     rw [if_pos hm] at eS
     refine ⟨_, rfl, _, rfl, (by show 2 ≤ sizeLine; decide), fun b hb => ?_⟩
     have kb : Kp [] H2 (upd H2 b (.tup [.str x, .int m])) := Kp.new hb
     have hyb := kb.get hy nEm
     have thb := (th.same kb).snoc (row := (x, m)) (b := b) q05
     refine ⟨hyb, ?_, _, _, bs ++ [b], rfl, ?_, ?_, ?_, q05⟩
     ·rw [ey, List.length_map, th.1]
      exact q0u (Nat.le_trans (List.length_filter_le _ _) (by rw [List.length_take]; omega))
     ·rw [ey, List.map_append]; rfl
     ·rw [eS]
      exact thb.tk (Kp.tk (xs := [D0]) (Kp.put (by simp)) fun c hc ys' e => by simp at hc; subst hc; rw [hyb] at e; cases e)
     ·intro c o e hn
      rw [q08 (q09 e hD)]
      exact (kp.trans kb) c o e hn
    ·refine q1o hm ?_
     rw [if_neg hm, List.append_nil] at eS
     exact ⟨_, _, bs, rfl, ey, by rw [eS]; exact th, kp, hy⟩
  ·rintro σ ys H2 ⟨v0, v1, bs, rfl, ey, th, kp, hy⟩
   have e : rows.take (as.map V.ref).length = rows := by rw [List.length_map, lI, List.take_length]
   rw [e] at th
   subst ey
   have hDH : H D0 = none := kpA.free hD
   exact k D0 bs H2 hDH hy th (kpA.trans kp)
def q9b : Sp := fun vs H Q _ => ∃ (l ld : Addr) (b : Int) (as : List Addr) (Ts : List Tb) (ad : List Addr) (ds : List Deed) (n : Nat) (rowss : List (List (Str × Int))), vs = [.ref l, .int b, .ref ld] ∧ StoryIn H l ld as Ts ad ds n ∧ (runD (newR Ts b) ds).2.desks.map (·.1) = rowss.map kvOf ∧ (∀ rows ∈ rowss, rows.length < 64) ∧
 ∀ (p : Addr) (cs : List Addr) (H' : Hp), H p = none → H' p = some (.lst (cs.map V.ref)) → cs.length = rowss.length → (∀ (j : Nat) c rows, cs[j]? = some c → rowss[j]? = some rows → ∃ bs rows', H' c = some (.lst (bs.map V.ref)) ∧ rows'.Perm rows ∧ q2x rows' ∧ q2a H' bs (q6k rows')) → Kp [] H H' → Q (.ref p) H'
theorem q7w : FnScope ["stocks", "bound", "deeds"] ["stocks", "bound", "deeds"] (q03 q41) := ⟨rfl, rfl, rfl, by decide +kernel, rfl, by decide +kernel, by decide +kernel⟩
theorem qb1 {f C Cd : Addr} {fd : FuncData} (Fn : Fun K "things_after" "things_after" q41 f fd) (T : TxtR K mg C) (Drunner_after : Df P w K mg base CX0 11 "runner_after" ["stocks", "bound", "deeds"] (q57 C Cd)) (Dthings_at : Df P w K mg base CX0 1 "things_at" ["desk"] (q65 Cd)) : FnOk P w K mg base CX0 12 f fd ["stocks", "bound", "deeds"] q9b := by
 refine Fn.ok q7w (fun vs H Q E h => ?_) (fun cdv A outer sh H vs Q E hr h => ?_)
 ·obtain ⟨l, ld, b, as, Ts, ad, ds, n, rowss, rfl, _⟩ := h
  rfl
 ·obtain ⟨l, ld, b, as, Ts, ad, ds, n, rowss, rfl, SI, hR, h2, k⟩ := h
  have nd := q7w.nd
  refine ⟨_, (q06 (q0a (q46 (NB := ["desk"]) (ix := [none]) rfl ⟨rfl, rfl, by decide +kernel, by decide +kernel, trivial, rfl, rfl, rfl, trivial⟩ (q1j (q12 (q0z Drunner_after (hr.mono (by decide)) q0m (q00 (pv 0) (q00 (pv 1) (q00 (pv 2) q04)))) rfl)) (fun _ _ _ _ _ => (q10 (i := 0) (show (["desk"] : List Str).Nodup by decide +kernel) rfl (Or.inl rfl))) (fun _ _ _ _ _ => q4x) (fun _ _ _ _ _ => (q0z Dthings_at (hr.mono (by decide)) q0m (q00 (pv 0) q04)))))), ?_⟩
  refine ⟨_, rfl, _, rfl, _, rfl, l, ld, b, as, Ts, ad, ds, n, rfl, SI, fun r H1 I1 => ?_⟩
  obtain ⟨tg, dl, wd, td, tr, lo, ps, wa, ta, Pp⟩ := I1.ex
  obtain ⟨dx, ho⟩ := Pp.ob rfl
  have hdl := Pp.hdl rfl
  have lR : ps.length = rowss.length := by
   rw [Pp.len]
   have := congrArg List.length hR
   rw [List.length_map, List.length_map] at this
   exact this
  have z9 : rowss.length ≤ 900 := by
   rw [← lR, Pp.len, (q2e _ _).1]
   simp [newR]
   exact SI.ok.z
  refine ⟨r, C, dx, _, _, rfl, ho, T.cl, T.nDesks, q4p .., dl, rfl, ⟨_, SqL.of hdl⟩, fun D0 hD => ?_⟩
  refine q32 (xs := ps.map V.ref) (fun i σ ys H2 => ∃ (v0 : Option V) (cs : List Addr), σ = [v0] ∧ ys = cs.map V.ref ∧ cs.length = i ∧ (∀ (j : Nat) c rows, cs[j]? = some c → rowss[j]? = some rows → ∃ bs rows', H2 c = some (.lst (bs.map V.ref)) ∧ (rows'.Perm rows ∧ q2x rows' ∧ q2a H2 bs (q6k rows')) ∧ c ≠ D0) ∧ Kp [] H1 H2 ∧ H2 D0 = some (.lst ys)) ?_ ?_ ?_ ?_
  ·exact ⟨none, [], rfl, rfl, rfl, fun j c rows e => by simp at e, Kp.new hD, q05⟩
  ·rintro i σ ys H2 hi ⟨v0, cs, rfl, ey, lc, th, kp, hy⟩
   exact ⟨SqL.of (kp.get hdl nEm), hy⟩
  ·rintro i x σ ys H2 hx ⟨v0, cs, rfl, ey, lc, th, kp, hy⟩
   rw [List.getElem?_map] at hx
   cases ea : ps[i]? with
   | none => rw [ea] at hx; cases hx
   | some p =>
    rw [ea] at hx
    obtain rfl : V.ref p = x := Option.some.inj hx
    have hip : i < ps.length := (List.getElem?_eq_some_iff.mp ea).1
    have hi : i < rowss.length := by omega
    have hd : i < (runD (newR Ts b) ds).2.desks.length := by rw [← Pp.len]; exact hip
    have er : rowss[i]? = some rowss[i] := List.getElem?_eq_getElem hi
    have ed := List.getElem?_eq_getElem hd
    have eT : ((runD (newR Ts b) ds).2.desks[i]).1 = kvOf rowss[i] := by
     have := congrArg (fun (z : List Tb) => z[i]?) hR
     simp only [List.getElem?_map, ed, er, Option.map_some] at this
     exact Option.some.inj this
    obtain ⟨_, s, d, D, _, _⟩ := Pp.dk i p ((runD (newR Ts b) ds).2.desks[i]).1 ((runD (newR Ts b) ds).2.desks[i]).2 ea ed rfl rfl rfl
    rw [eT] at D
    refine ⟨_, rfl, p, s, d, rowss[i], _, rfl, D.same kp, h2 _ (List.getElem_mem hi), fun q bs rows' H3 hq hq3 pm lt th3 kp3 => ?_⟩
    have hy3 := kp3.get hy nEm
    have nq : q ≠ D0 := fun z => by rw [z, hy] at hq; cases hq
    have kput : Kp [D0] H3 (upd H3 D0 (.lst (ys ++ [V.ref q]))) := Kp.put (by simp)
    have tkp : TK H3 (upd H3 D0 (.lst (ys ++ [V.ref q]))) := Kp.tk kput fun c hc ys' e => by simp at hc; subst hc; rw [hy3] at e; cases e
    refine ⟨hy3, ?_, _, cs ++ [q], rfl, ?_, by simp [lc], fun j c rows e1 e2 => ?_, ?_, q05⟩
    ·rw [ey, List.length_map, lc]; exact q0u (by omega)
    ·rw [ey, List.map_append]; rfl
    ·by_cases hj : j < cs.length
     ·rw [List.getElem?_append_left hj] at e1
      obtain ⟨bs', rows2, h1', ⟨pm2, lt2, h2'⟩, h3'⟩ := th j c rows e1 e2
      exact ⟨bs', rows2, by rw [q08 h3']; exact kp3.get h1' nEm, ⟨pm2, lt2, (h2'.same kp3).tk tkp⟩, h3'⟩
     ·have ej : j = cs.length := by
       have := (List.getElem?_eq_some_iff.mp e1).1
       simp at this
       omega
      subst ej
      rw [List.getElem?_append_right (Nat.le_refl _)] at e1
      simp at e1
      subst e1
      rw [lc, er] at e2
      obtain rfl : rowss[i] = rows := Option.some.inj e2
      exact ⟨bs, rows', by rw [q08 nq]; exact hq3, ⟨pm, lt, th3.tk tkp⟩, nq⟩
    ·intro c o e hn
     rw [q08 (q09 e hD)]
     exact (kp.trans kp3) c o e hn
  ·rintro σ ys H2 ⟨v0, cs, rfl, ey, lc, th, kp, hy⟩
   subst ey
   have hDH : H D0 = none := by
    cases e : H D0 with
    | none => rfl
    | some o => have := I1.kp.get e nEm; rw [hD] at this; cases this
   refine k D0 cs H2 hDH hy (by rw [lc, List.length_map, lR]) (fun j c rows e1 e2 => ?_) (I1.kp.trans kp)
   obtain ⟨bs, rows', h1', ⟨h2', h3', h4'⟩, _⟩ := th j c rows e1 e2
   exact ⟨bs, rows', h1', h2', h3', h4'⟩
def q4l (H : Hp) (bs : List Addr) (rows : List (Str × List En)) : Prop := bs.length = rows.length ∧ ∀ (j : Nat) b row, bs[j]? = some b → rows[j]? = some row → ∃ l as, H b = some (.tup [.str row.1, .ref l]) ∧ TrAt H l as row.2
def q99 (R : Rn) : List (Str × List En) := R.works.map fun w => (w.1, R.trail w.1)
def q8t : Sp := fun vs H Q _ => ∃ (l ld : Addr) (b : Int) (as : List Addr) (Ts : List Tb) (ad : List Addr) (ds : List Deed) (n : Nat), vs = [.ref l, .int b, .ref ld] ∧ StoryIn H l ld as Ts ad ds n ∧
 ∀ p bs H', H p = none → H' p = some (.lst (bs.map V.ref)) → q4l H' bs (q99 (runD (newR Ts b) ds).2) → Kp [] H H' → Q (.ref p) H'
theorem q70 : FnScope ["stocks", "bound", "deeds"] ["stocks", "bound", "deeds"] (q03 q4c) := ⟨rfl, rfl, rfl, by decide +kernel, rfl, by decide +kernel, by decide +kernel⟩
theorem qb3 {f C Cd : Addr} {fd : FuncData} (Fn : Fun K "trails_after" "trails_after" q4c f fd) (T : TxtR K mg C) (B : Blt mg) (Drunner_after : Df P w K mg base CX0 11 "runner_after" ["stocks", "bound", "deeds"] (q57 C Cd)) : FnOk P w K mg base CX0 12 f fd ["stocks", "bound", "deeds"] q8t := by
 refine Fn.ok q70 (fun vs H Q E h => ?_) (fun cdv A outer s H vs Q E hr h => ?_)
 ·obtain ⟨l, ld, b, as, Ts, ad, ds, n, rfl, _⟩ := h
  rfl
 ·obtain ⟨l, ld, b, as, Ts, ad, ds, n, rfl, SI, k⟩ := h
  have nd := q70.nd
  refine ⟨_, (q06 (q0a (q27 (qac rfl) rfl B.list_ PyProof.Rows.boot_list (q00 (qbn PySem.F.plainAttrs_dict PySem.F.slot_dict_items PySem.F.type_dict_items q6a (q12 (q0z Drunner_after (hr.mono (by decide)) q0m (q00 (pv 0) (q00 (pv 1) (q00 (pv 2) q04)))) rfl)) q04)))), ?_⟩
  refine ⟨_, rfl, _, rfl, _, rfl, l, ld, b, as, Ts, ad, ds, n, rfl, SI, fun r H1 I1 => ?_⟩
  obtain ⟨tg, dl, wd, td, tr, lo, ps, wa, ta, Pp⟩ := I1.ex
  obtain ⟨dx, ho⟩ := Pp.ob rfl
  have htd := Pp.htd rfl
  refine ⟨r, C, dx, _, _, rfl, ho, T.cl, T.nTrails, q3z .., .inr (.inr (.inl ⟨rfl, .inl ⟨_, htd⟩⟩)), td, _, rfl, rfl, htd, trivial, fun v hv => ?_⟩
  have kv : Kp [] H1 (upd H1 v (.ext fun h => h.IsItemsView v td)) := Kp.new hv
  refine ⟨v, td, _, rfl, q05, kv.get htd nEm, fun p bs H' hp hp' It kp => ?_⟩
  have kp1 := kv.trans kp
  have hpH : H p = none := by
   cases e : H p with
   | none => rfl
   | some o => have := (I1.kp.trans kv).get e nEm; rw [hp] at this; cases this
  refine k p bs H' hpH hp' ⟨?_, fun j c row e1 e2 => ?_⟩ (I1.kp.trans kp1)
  ·rw [It.len]; unfold wkT q99; rw [List.length_map, List.length_map]
  ·unfold q99 at e2
   rw [List.getElem?_map] at e2
   cases e3 : (runD (newR Ts b) ds).2.works[j]? with
   | none => rw [e3] at e2; cases e2
   | some w' =>
    rw [e3] at e2
    obtain rfl := Option.some.inj e2
    obtain ⟨_, as', h1, L⟩ := Pp.tl w'.1 w'.2 (List.mem_of_getElem? e3) rfl
    have := It.at_ j c (Sum.inr w'.1, .ref (ta w'.1)) e1 (by unfold wkT; rw [List.getElem?_map, e3]; rfl)
    exact ⟨ta w'.1, as', this, kp1.get h1 nEm, L.same kp1⟩
def q69 : Sp := fun vs H Q _ => ∃ n : Int, vs = [.int n] ∧ Q (.bl true) H
theorem qds : FnScope ["_law_found"] ["_law_found"] (q03 q5y) := ⟨rfl, rfl, rfl, by decide +kernel, rfl, by decide +kernel, by decide +kernel⟩
theorem qef {f : Addr} {fd : FuncData} (Fn : Fun K "_law_whole" "_law_whole" q5y f fd) (B : Blt mg) : FnOk P w K mg base CX0 1 f fd ["_law_found"] q69 := by
 refine Fn.ok qds (fun vs H Q E h => ?_) (fun cdv A outer s H vs Q E hr h => ?_)
 ·obtain ⟨n, rfl, _⟩ := h
  rfl
 ·obtain ⟨n, rfl, k⟩ := h
  refine ⟨_, (q06 (q0a (q5k (q0f q0s rfl B.isinstance PyProof.Rows.boot_isinstance (q00 (pv 0) (q00 (q0y rfl B.int_ PyProof.Rows.boot_int (v := .ty "int") rfl) q04))) (q7y (qfr (q0f q0s rfl B.isinstance PyProof.Rows.boot_isinstance (q00 (pv 0) (q00 (q0y rfl B.bool PyProof.Rows.boot_bool (v := .ty "bool") rfl) q04)))))))), ?_⟩
  refine ⟨_, rfl, _, _, _, true, rfl, .int _, q1d (by decide +kernel), _, rfl, iteT ?_⟩
  exact ⟨_, rfl, _, _, _, false, rfl, .int _, q1d (by decide +kernel), _, rfl, k⟩
def qfc : Sp := fun vs H Q _ => ∃ (a : Addr) (e : En), vs = [.ref a] ∧ H a = some (.tup (enV e)) ∧ Q (.bl true) H
theorem qfv : FnScope ["_law_found"] ["_law_found"] (q03 qa4) := ⟨rfl, rfl, rfl, by decide +kernel, rfl, by decide +kernel, by decide +kernel⟩
theorem qg9 {f : Addr} {fd : FuncData} (Fn : Fun K "_law_is_entry" "_law_is_entry" qa4 f fd) (B : Blt mg) (Dlaw_whole : Df P w K mg base CX0 1 "_law_whole" ["_law_found"] q69) : FnOk P w K mg base CX0 2 f fd ["_law_found"] qfc := by
 refine Fn.ok qfv (fun vs H Q E h => ?_) (fun cdv A outer s H vs Q E hr h => ?_)
 ·obtain ⟨a, e, rfl, _⟩ := h
  rfl
 ·obtain ⟨a, e, rfl, ha, k⟩ := h
  refine ⟨_, (q02 (q0w (PW.pt (q34 (q1a (q16 (q0f q0s rfl B.isinstance PyProof.Rows.boot_isinstance (q00 (pv 0) (q00 (q0y rfl B.tuple PyProof.Rows.boot_tuple (v := .ty "tuple") rfl) q04))))) (q2f (q0h q6t (q0f q0k rfl B.len PySem.boot_len (q00 (pv 0) q04)) q01 (q0q _)))))
   (q06 (q0a q1p))
   q0b)
   (q06 (q0a (q5k (q0f q0s rfl B.isinstance PyProof.Rows.boot_isinstance (q00 (q0j q0i (pv 0) q01 (fun _ _ => rfl)) (q00 (q0y rfl B.str PyProof.Rows.boot_str (v := .ty "str") rfl) q04))) (q7y (q0z Dlaw_whole (hr.mono (by decide)) q0m (q00 (q0j q0i (pv 0) q01 (fun _ _ => rfl)) q04))))))), ?_⟩
  refine ⟨_, rfl, _, _, _, true, rfl, .tup ha, q1d (by decide +kernel), _, rfl, iteF ?_⟩
  refine ⟨_, rfl, a, _, rfl, .inr (SqT.of ha), rfl, _, rfl, q6f rfl ?_⟩
  refine ⟨_, rfl, a, _, _, _, rfl, rfl, SqT.of ha, q07 (j := 0) rfl, _, _, _, true, rfl, .str _, q1d (by decide +kernel), _, rfl, iteT ?_⟩
  exact ⟨_, rfl, a, _, _, _, rfl, rfl, SqT.of ha, q07 (j := 1) rfl, _, rfl, k⟩
def qdb : Sp := fun vs H Q _ => ∃ (p : Addr) (bs : List Addr) (rows : List (Str × List En)), vs = [.ref p] ∧ H p = some (.lst (bs.map V.ref)) ∧ q4l H bs rows ∧ Q (.bl true) H
theorem q9a : FnScope ["_law_found", "_law_row", "_law_entry"] ["_law_found"] (q03 q5n) := ⟨rfl, rfl, rfl, by decide +kernel, rfl, by decide +kernel, by decide +kernel⟩
theorem qed {f : Addr} {fd : FuncData} (Fn : Fun K "_law_are_trails" "_law_are_trails" q5n f fd) (B : Blt mg) (Dlaw_is_entry : Df P w K mg base CX0 2 "_law_is_entry" ["_law_found"] qfc) : FnOk P w K mg base CX0 3 f fd ["_law_found"] qdb := by
 refine Fn.ok q9a (fun vs H Q E h => ?_) (fun cdv A outer s H vs Q E hr h => ?_)
 ·obtain ⟨p, bs, rows, rfl, _⟩ := h
  rfl
 ·obtain ⟨p, bs, rows, rfl, hp, TR, k⟩ := h
  have nd := q9a.nd
  refine ⟨_, (q02 (q0w (q1a (q16 (q0f q0s rfl B.isinstance PyProof.Rows.boot_isinstance (q00 (pv 0) (q00 (q0y rfl B.list_ PyProof.Rows.boot_list (v := .ty "list") rfl) q04)))))
   (q06 (q0a q1p))
   q0b)
   (q02 (q25 PassesOwn.never rfl (q1j (pv 0)) (q10 (i := 1) nd rfl (Or.inl rfl))
   (q02 (q0w (PW.pt (q34 (q1a (q16 (q0f q0s rfl B.isinstance PyProof.Rows.boot_isinstance (q00 (pv 1) (q00 (q0y rfl B.tuple PyProof.Rows.boot_tuple (v := .ty "tuple") rfl) q04))))) (q34 (q0h q6t (q0f q0k rfl B.len PySem.boot_len (q00 (pv 1) q04)) q01 (q0q _)) (q2f (q1a (q16 (q0f q0s rfl B.isinstance PyProof.Rows.boot_isinstance (q00 (q0j q0i (pv 1) q01 (fun _ _ => rfl)) (q00 (q0y rfl B.str PyProof.Rows.boot_str (v := .ty "str") rfl) q04)))))))))
   (q06 (q0a q1p))
   q0b)
   (q02 (q0w (q1a (q16 (q0f q0s rfl B.isinstance PyProof.Rows.boot_isinstance (q00 (q0j q0i (pv 1) q01 (fun _ _ => rfl)) (q00 (q0y rfl B.list_ PyProof.Rows.boot_list (v := .ty "list") rfl) q04)))))
   (q06 (q0a q1p))
   q0b)
   (q06 (q25 PassesOwn.never rfl (q1j (q0j q0i (pv 1) q01 (fun _ _ => rfl))) (q10 (i := 2) nd rfl (Or.inl rfl))
   (q06 (q0w (q1a (q16 (q0z Dlaw_is_entry (hr.mono (by decide)) q0m (q00 (pv 2) q04))))
   (q06 (q0a q1p))
   q0b)))))))
   (q06 (q0a q1p)))), ?_⟩
  refine ⟨_, rfl, _, _, _, true, rfl, .lst hp, q1d (by decide +kernel), _, rfl, iteF ?_⟩
  refine ⟨_, rfl, p, rfl, ⟨_, SqL.of hp⟩, ?_⟩
  refine q1u (xs := bs.map V.ref) (fun i σ H2 => ∃ v1 v2 : Option V, σ = [some (.ref p), v1, v2] ∧ H2 = H) ⟨none, none, rfl, rfl⟩ (fun i σ H2 _ ⟨_, _, _, e⟩ => by rw [e]; exact SqL.of hp) ?_ ?_
  ·rintro i x σ H2 hx ⟨v1, v2, rfl, rfl⟩
   rw [List.getElem?_map] at hx
   cases ea : bs[i]? with
   | none => rw [ea] at hx; cases hx
   | some b =>
    rw [ea] at hx
    obtain rfl : V.ref b = x := Option.some.inj hx
    have hi : i < rows.length := by rw [← TR.1]; exact (List.getElem?_eq_some_iff.mp ea).1
    obtain ⟨l, as, hb, T⟩ := TR.2 i b _ ea (List.getElem?_eq_getElem hi)
    refine ⟨_, rfl, _, _, _, true, rfl, .tup hb, q1d (by decide +kernel), _, rfl, iteF ?_⟩
    refine ⟨_, rfl, b, _, rfl, .inr (SqT.of hb), rfl, _, rfl, q6f rfl ?_⟩
    refine ⟨_, rfl, b, _, _, _, rfl, rfl, SqT.of hb, q07 (j := 0) rfl, _, _, _, true, rfl, .str _, q1d (by decide +kernel), _, rfl, iteF ?_⟩
    refine ⟨_, rfl, b, _, _, _, rfl, rfl, SqT.of hb, q07 (j := 1) rfl, _, _, _, true, rfl, .lst T.ls, q1d (by decide +kernel), _, rfl, iteF ?_⟩
    refine ⟨_, rfl, b, _, _, _, rfl, rfl, SqT.of hb, q07 (j := 1) rfl, l, rfl, ⟨_, SqL.of T.ls⟩, ?_⟩
    refine q1u (xs := as.map V.ref) (fun i σ H2' => ∃ v2 : Option V, σ = [some (.ref p), some (.ref b), v2] ∧ H2' = H2) ⟨_, rfl, rfl⟩ (fun i σ H2' _ ⟨_, _, e⟩ => by rw [e]; exact SqL.of T.ls) ?_ ?_
    ·rintro j x σ H3 hx ⟨v2, rfl, rfl⟩
     rw [List.getElem?_map] at hx
     cases eb : as[j]? with
     | none => rw [eb] at hx; cases hx
     | some a =>
      rw [eb] at hx
      obtain rfl : V.ref a = x := Option.some.inj hx
      obtain ⟨e, _, ha⟩ := T.en.get eb
      exact ⟨_, rfl, a, e, rfl, ha, _, rfl, iteF ⟨_, rfl, rfl⟩⟩
    ·rintro σ H3 ⟨v2, rfl, rfl⟩
     exact ⟨_, _, rfl, rfl⟩
  ·rintro σ H2 ⟨v1, v2, rfl, rfl⟩
   exact k
theorem qit {X : Cx} (hu : X.A.units + 64 < cLine) : OpR X (compareOp .In) (rInA X.K false) := by
 intro pins s σ H x y v u Q I rx ry h
 obtain ⟨p, as, e, rfl, hq, he, q⟩ := h
 cases ry
 obtain ⟨its, r, pl, hz⟩ := I.list hq
 obtain rfl := q7v r
 refine PySem.SeqAt.in_listAt (refB e) pl.isList (fun w hw => ?_) ⟨.bl _, H, I, rfl, ?_⟩
 ·simp only [List.mem_toArray, List.mem_map] at hw
  obtain ⟨a, ha, rfl⟩ := hw
  exact (he a ha).at I X.A.in1 (.ref a) v (by show X.A.units + 1 + 60 < cLine; omega) rfl rx
 ·have : (as.map Value.ref).toArray.any (refB e) = as.any e := by simp [List.any_map, Function.comp_def, refB]
  rw [this]
  exact q
def q2o (H : Hp) (bs : List Addr) (F : Fb) : Prop := bs.length = F.length ∧ ∀ (j : Nat) b kv, bs[j]? = some b → F[j]? = some kv → ∃ c, H b = some (.tup [.ref c, kv.2]) ∧ H c = some (.tup (kv.1.map kV))
theorem q2o.tk {H H' : Hp} {bs : List Addr} {F : Fb} (h : q2o H bs F) (k : TK H H') : q2o H' bs F := ⟨h.1, fun j b kv e1 e2 => let ⟨c, h1, h2⟩ := h.2 j b kv e1 e2; ⟨c, k _ _ h1, k _ _ h2⟩⟩
theorem q2o.same {H H' : Hp} {bs : List Addr} {F : Fb} (h : q2o H bs F) (k : Kp [] H H') : q2o H' bs F := h.tk (Kp.tk k (by simp))
theorem q60 {α β : Type} {R : α → β → Prop} : ∀ {as : List α} {bs : List β} {i : Nat} {a : α}, Paired R as bs → as[i]? = some a → ∃ b, bs[i]? = some b ∧ R a b
 | _, _, _, _, .nil, e => by simp at e
 | _, _, 0, _, .cons r _, e => by simp at e; subst e; exact ⟨_, rfl, r⟩
 | _, _, i + 1, a, .cons _ t, e => by
  obtain ⟨x, h1, h2⟩ := q60 (i := i) (a := a) t (by simpa using e)
  exact ⟨x, by simpa using h1, h2⟩
def q35 (H : Hp) (qs : List Addr) (Fs : List Fb) : Prop := qs.length = Fs.length ∧ ∀ (i : Nat) q F, qs[i]? = some q → Fs[i]? = some F → ∃ bs, H q = some (.lst (bs.map V.ref)) ∧ q2o H bs F
theorem q35.same {H H' : Hp} {qs : List Addr} {Fs : List Fb} (h : q35 H qs Fs) (k : Kp [] H H') : q35 H' qs Fs := ⟨h.1, fun i q F e1 e2 => let ⟨bs, h1, h2⟩ := h.2 i q F e1 e2; ⟨bs, k.get h1 nEm, h2.same k⟩⟩
def qf9 : Sp := fun vs H Q _ => ∃ (l ld : Addr) (b : Int) (as : List Addr) (Ts : List Tb) (ad : List Addr) (ds : List Deed) (n : Nat), vs = [.ref l, .int b, .ref ld] ∧ StoryIn H l ld as Ts ad ds n ∧
 ∀ (p : Addr) (qs : List Addr) (H' : Hp), H p = none → H' p = some (.lst (qs.map V.ref)) → q35 H' qs ((runD (newR Ts b) ds).2.desks.map (·.2)) → Kp [] H H' → Q (.ref p) H'
theorem qba : FnScope ["stocks", "bound", "deeds"] ["stocks", "bound", "deeds"] (q03 q9s) := ⟨rfl, rfl, rfl, by decide +kernel, rfl, by decide +kernel, by decide +kernel⟩
theorem qfz {f C Cd : Addr} {fd : FuncData} (Fn : Fun K "keys_after" "keys_after" q9s f fd) (T : TxtR K mg C) (Td : Txt K mg Cd) (B : Blt mg) (Drunner_after : Df P w K mg base CX0 11 "runner_after" ["stocks", "bound", "deeds"] (q57 C Cd)) : FnOk P w K mg base CX0 12 f fd ["stocks", "bound", "deeds"] qf9 := by
 refine Fn.ok qba (fun vs H Q E h => ?_) (fun cdv A outer sh H vs Q E hr h => ?_)
 ·obtain ⟨l, ld, b, as, Ts, ad, ds, n, rfl, _⟩ := h
  rfl
 ·obtain ⟨l, ld, b, as, Ts, ad, ds, n, rfl, SI, k⟩ := h
  have nd := qba.nd
  refine ⟨_, (q06 (q0a (q46 (NB := ["desk"]) (ix := [none]) rfl ⟨rfl, rfl, by decide +kernel, by decide +kernel, trivial, rfl, rfl, rfl, trivial⟩ (q1j (q12 (q0z Drunner_after (hr.mono (by decide)) q0m (q00 (pv 0) (q00 (pv 1) (q00 (pv 2) q04)))) rfl)) (fun _ _ _ _ _ => (q10 (i := 0) (show (["desk"] : List Str).Nodup by decide +kernel) rfl (Or.inl rfl))) (fun _ _ _ _ _ => q4x) (fun _ _ _ _ _ => (q27 (qae rfl) rfl B.list_ PyProof.Rows.boot_list (q00 (qgs (K := K) rfl PySem.F.plainAttrs_dict PySem.F.slot_dict_items PySem.F.type_dict_items q6a (qh6 (K := K) rfl (pv 0) rfl)) q04)))))), ?_⟩
  refine ⟨_, rfl, _, rfl, _, rfl, l, ld, b, as, Ts, ad, ds, n, rfl, SI, fun r H1 I1 => ?_⟩
  obtain ⟨tg, dl, wd, td, tr, lo, ps, wa, ta, Pp⟩ := I1.ex
  obtain ⟨dx, ho⟩ := Pp.ob rfl
  have hdl := Pp.hdl rfl
  have lR : ps.length = (runD (newR Ts b) ds).2.desks.length := Pp.len
  have z9 : ps.length ≤ 900 := by
   rw [lR, (q2e _ _).1]
   simp [newR]
   exact SI.ok.z
  refine ⟨r, C, dx, _, _, rfl, ho, T.cl, T.nDesks, q4p .., dl, rfl, ⟨_, SqL.of hdl⟩, fun D0 hD => ?_⟩
  refine q32 (xs := ps.map V.ref) (fun i σ ys H2 => ∃ (v0 : Option V) (cs : List Addr), σ = [v0] ∧ ys = cs.map V.ref ∧ cs.length = i ∧ (∀ (j : Nat) c F, cs[j]? = some c → ((runD (newR Ts b) ds).2.desks.map (·.2))[j]? = some F → ∃ bs, H2 c = some (.lst (bs.map V.ref)) ∧ q2o H2 bs F ∧ c ≠ D0) ∧ Kp [] H1 H2 ∧ H2 D0 = some (.lst ys)) ?_ ?_ ?_ ?_
  ·exact ⟨none, [], rfl, rfl, rfl, fun j c F e => by simp at e, Kp.new hD, q05⟩
  ·rintro i σ ys H2 hi ⟨v0, cs, rfl, ey, lc, th, kp, hy⟩
   exact ⟨SqL.of (kp.get hdl nEm), hy⟩
  ·rintro i x σ ys H2 hx ⟨v0, cs, rfl, ey, lc, th, kp, hy⟩
   rw [List.getElem?_map] at hx
   cases ea : ps[i]? with
   | none => rw [ea] at hx; cases hx
   | some p =>
   rw [ea] at hx
   obtain rfl : V.ref p = x := Option.some.inj hx
   have hip : i < ps.length := (List.getElem?_eq_some_iff.mp ea).1
   have hd : i < (runD (newR Ts b) ds).2.desks.length := by omega
   have ed := List.getElem?_eq_getElem hd
   obtain ⟨_, s, d, D, _, _⟩ := Pp.dk i p ((runD (newR Ts b) ds).2.desks[i]).1 ((runD (newR Ts b) ds).2.desks[i]).2 ea ed rfl rfl rfl
   have eF : ((runD (newR Ts b) ds).2.desks.map (·.2))[i]? = some ((runD (newR Ts b) ds).2.desks[i]).2 := by rw [List.getElem?_map, ed]; rfl
   generalize ((runD (newR Ts b) ds).2.desks[i]).2 = F at D eF
   generalize ((runD (newR Ts b) ds).2.desks[i]).1 = T' at D
   have D2 := D.same kp
   obtain ⟨dp, hp⟩ := D2.ob
   refine ⟨_, rfl, p, Cd, dp, _, _, rfl, hp, Td.cl, Td.nF, q1z _ _, .inr (.inr (.inl ⟨rfl, .inr ⟨_, D2.ft⟩⟩)), d, _, rfl, rfl, D2.ft, trivial, fun v hv => ?_⟩
   have kv : Kp [] H2 (upd H2 v (.ext fun h => h.IsItemsView v d)) := Kp.new hv
   refine ⟨v, d, _, rfl, q05, kv.get D2.ft nEm, trivial, fun q bs prs H3 hq hq3 hps lbs hbs kp3 => ?_⟩
   have hps : Paired (fun (kv : List Key × V) (p : V × V) => (∃ q, p.1 = .ref q ∧ (upd H2 v (.ext fun h => h.IsItemsView v d)) q = some (.tup (kv.1.map kV))) ∧ p.2 = kv.2) F prs := hps
   have KR : q2o H3 bs F := by
    refine ⟨lbs.trans (Paired.length hps).symm, fun j c fv e1 e2 => ?_⟩
    obtain ⟨pr, e3, ⟨⟨q', e4, e5⟩, e6⟩⟩ := q60 hps e2
    have := hbs j c pr e1 e3
    rw [e4, e6] at this
    exact ⟨q', this, kp3.get e5 nEm⟩
   have k23 := kv.trans kp3
   have hy3 := k23.get hy nEm
   have nq : q ≠ D0 := fun z => by
    have := kv.get hy nEm
    rw [z, this] at hq
    cases hq
   have tkp : TK H3 (upd H3 D0 (.lst (ys ++ [V.ref q]))) := Kp.tk (xs := [D0]) (Kp.put (by simp)) fun c hc ys' e => by simp at hc; subst hc; rw [hy3] at e; cases e
   refine ⟨hy3, (by rw [ey, List.length_map, lc]; exact q0u (by omega)), _, cs ++ [q], rfl, by rw [ey, List.map_append]; rfl, by simp [lc], fun j c F' e1 e2 => ?_, ?_, q05⟩
   ·by_cases hj : j < cs.length
    ·rw [List.getElem?_append_left hj] at e1
     obtain ⟨bs', h1', h2', h3'⟩ := th j c F' e1 e2
     exact ⟨bs', by rw [q08 h3']; exact k23.get h1' nEm, (h2'.same k23).tk tkp, h3'⟩
    ·have ej : j = cs.length := by
      have := (List.getElem?_eq_some_iff.mp e1).1
      simp at this
      omega
     subst ej
     rw [List.getElem?_append_right (Nat.le_refl _)] at e1
     simp at e1
     subst e1
     rw [lc, eF] at e2
     obtain rfl : F = F' := Option.some.inj e2
     exact ⟨bs, by rw [q08 nq]; exact hq3, KR.tk tkp, nq⟩
   ·intro c o e hn
    rw [q08 (q09 e hD)]
    exact (kp.trans k23) c o e hn
  ·rintro σ ys H2 ⟨v0, cs, rfl, ey, lc, th, kp, hy⟩
   subst ey
   have hDH : H D0 = none := by
    cases e : H D0 with
    | none => rfl
    | some o => have := I1.kp.get e nEm; rw [hD] at this; cases this
   refine k D0 cs H2 hDH hy ⟨by rw [lc, List.length_map, List.length_map, lR], fun j c F e1 e2 => ?_⟩ (I1.kp.trans kp)
   obtain ⟨bs, h1', h2', _⟩ := th j c F e1 e2
   exact ⟨bs, h1', h2'⟩
def q3e (F : Fb) : Prop := ∀ kv ∈ F, ∃ (x : Str) (n : Int) (y : Str), kv = ([Sum.inr x, Sum.inl n], .str y)
def qfk : Sp := fun vs H Q _ => ∃ (p : Addr) (qs : List Addr) (Fs : List Fb) (c : Nat), vs = [.ref p, .int c] ∧ H p = some (.lst (qs.map V.ref)) ∧ q35 H qs Fs ∧ Fs.length = c ∧ (∀ F ∈ Fs, q3e F) ∧ Q (.bl true) H
theorem qc5 : FnScope ["_law_found", "_law_count", "_law_rows", "_law_row"] ["_law_found", "_law_count"] (q03 qab) := ⟨rfl, rfl, rfl, by decide +kernel, rfl, by decide +kernel, by decide +kernel⟩
theorem qgn {f : Addr} {fd : FuncData} (Fn : Fun K "_law_are_keys" "_law_are_keys" qab f fd) (B : Blt mg) (Dlaw_whole : Df P w K mg base CX0 1 "_law_whole" ["_law_found"] q69) : FnOk P w K mg base CX0 2 f fd ["_law_found", "_law_count"] qfk := by
 refine Fn.ok qc5 (fun vs H Q E h => ?_) (fun cdv A outer s H vs Q E hr h => ?_)
 ·obtain ⟨p, qs, Fs, c, rfl, _⟩ := h
  rfl
 ·obtain ⟨p, qs, Fs, c, rfl, hp, KA, lF, kw, k⟩ := h
  have nd := qc5.nd
  refine ⟨_, (q02 (q0w (PW.pt (q34 (q1a (q16 (q0f q0s rfl B.isinstance PyProof.Rows.boot_isinstance (q00 (pv 0) (q00 (q0y rfl B.list_ PyProof.Rows.boot_list (v := .ty "list") rfl) q04))))) (q2f (q0h q6t (q0f q0k rfl B.len PySem.boot_len (q00 (pv 0) q04)) (pv 1) (q0q _)))))
   (q06 (q0a q1p))
   q0b)
   (q02 (q25 PassesOwn.never rfl (q1j (pv 0)) (q10 (i := 2) nd rfl (Or.inl rfl))
   (q02 (q0w (q1a (q16 (q0f q0s rfl B.isinstance PyProof.Rows.boot_isinstance (q00 (pv 2) (q00 (q0y rfl B.list_ PyProof.Rows.boot_list (v := .ty "list") rfl) q04)))))
   (q06 (q0a q1p))
   q0b)
   (q06 (q25 PassesOwn.never rfl (q1j (pv 2)) (q10 (i := 3) nd rfl (Or.inl rfl))
   (q02 (q0w (PW.pt (q34 (q1a (q16 (q0f q0s rfl B.isinstance PyProof.Rows.boot_isinstance (q00 (pv 3) (q00 (q0y rfl B.tuple PyProof.Rows.boot_tuple (v := .ty "tuple") rfl) q04))))) (q34 (q0h q6t (q0f q0k rfl B.len PySem.boot_len (q00 (pv 3) q04)) q01 (q0q _)) (q2f (q1a (q16 (q0f q0s rfl B.isinstance PyProof.Rows.boot_isinstance (q00 (q0j q0i (pv 3) q01 (fun _ _ => rfl)) (q00 (q0y rfl B.str PyProof.Rows.boot_str (v := .ty "str") rfl) q04)))))))))
   (q06 (q0a q1p))
   q0b)
   (q02 (q0w (PW.pt (q34 (q1a (q16 (q0f q0s rfl B.isinstance PyProof.Rows.boot_isinstance (q00 (q0j q0i (pv 3) q01 (fun _ _ => rfl)) (q00 (q0y rfl B.tuple PyProof.Rows.boot_tuple (v := .ty "tuple") rfl) q04))))) (q2f (q0h q6t (q0f q0k rfl B.len PySem.boot_len (q00 (q0j q0i (pv 3) q01 (fun _ _ => rfl)) q04)) q01 (q0q _)))))
   (q06 (q0a q1p))
   q0b)
   (q06 (q0w (PW.pt (q34 (q1a (q16 (q0f q0s rfl B.isinstance PyProof.Rows.boot_isinstance (q00 (q0j q0i (q0j q0i (pv 3) q01 (fun _ _ => rfl)) q01 (fun _ _ => rfl)) (q00 (q0y rfl B.str PyProof.Rows.boot_str (v := .ty "str") rfl) q04))))) (q2f (q1a (q16 (q0z Dlaw_whole (hr.mono (by decide)) q0m (q00 (q0j q0i (q0j q0i (pv 3) q01 (fun _ _ => rfl)) q01 (fun _ _ => rfl)) q04)))))))
   (q06 (q0a q1p))
   q0b))))))))
   (q06 (q0a q1p)))), ?_⟩
  refine ⟨_, rfl, _, _, _, true, rfl, .lst hp, q1d (by decide +kernel), _, rfl, iteF ?_⟩
  refine ⟨_, rfl, p, _, rfl, .inl (SqL.of hp), _, rfl, rfl, _, rfl, q6f (by rw [List.length_map, KA.1, lF]) ?_⟩
  refine ⟨_, rfl, p, rfl, ⟨_, SqL.of hp⟩, ?_⟩
  refine q1u (xs := qs.map V.ref) (fun i σ H2 => ∃ v2 v3 : Option V, σ = [some (.ref p), some (.int c), v2, v3] ∧ H2 = H) ⟨none, none, rfl, rfl⟩ (fun i σ H2 _ ⟨_, _, _, e⟩ => by rw [e]; exact SqL.of hp) ?_ ?_
  ·rintro i x σ H2 hx ⟨v2, v3, rfl, rfl⟩
   rw [List.getElem?_map] at hx
   cases eq : qs[i]? with
   | none => rw [eq] at hx; cases hx
   | some q =>
   rw [eq] at hx
   obtain rfl : V.ref q = x := Option.some.inj hx
   have hi : i < Fs.length := by rw [← KA.1]; exact (List.getElem?_eq_some_iff.mp eq).1
   obtain ⟨bs, hq, KR⟩ := KA.2 i q _ eq (List.getElem?_eq_getElem hi)
   have kwF := kw _ (List.getElem_mem hi)
   generalize Fs[i] = F at KR kwF
   refine ⟨_, rfl, _, _, _, true, rfl, .lst hq, q1d (by decide +kernel), _, rfl, iteF ?_⟩
   refine ⟨_, rfl, q, rfl, ⟨_, SqL.of hq⟩, ?_⟩
   refine q1u (xs := bs.map V.ref) (fun i σ H2' => ∃ v3 : Option V, σ = [some (.ref p), some (.int c), some (.ref q), v3] ∧ H2' = H2) ⟨_, rfl, rfl⟩ (fun i σ H2' _ ⟨_, _, e⟩ => by rw [e]; exact SqL.of hq) ?_ ?_
   ·rintro j x σ H3 hx ⟨v3, rfl, rfl⟩
    rw [List.getElem?_map] at hx
    cases eb : bs[j]? with
    | none => rw [eb] at hx; cases hx
    | some b =>
     rw [eb] at hx
     obtain rfl : V.ref b = x := Option.some.inj hx
     have hj : j < F.length := by rw [← KR.1]; exact (List.getElem?_eq_some_iff.mp eb).1
     obtain ⟨c', hb, hc⟩ := KR.2 j b _ eb (List.getElem?_eq_getElem hj)
     obtain ⟨x, n, y, e⟩ := kwF _ (List.getElem_mem hj)
     rw [e] at hb hc
     have hc : H3 c' = some (.tup [.str x, .int n]) := hc
     have hb : H3 b = some (.tup [.ref c', .str y]) := hb
     refine ⟨_, rfl, _, _, _, true, rfl, .tup hb, q1d (by decide +kernel), _, rfl, iteF ?_⟩
     refine ⟨_, rfl, b, _, rfl, .inr (SqT.of hb), rfl, _, rfl, q6f rfl ?_⟩
     refine ⟨_, rfl, b, _, _, _, rfl, rfl, SqT.of hb, q07 (j := 1) rfl, _, _, _, true, rfl, .str _, q1d (by decide +kernel), _, rfl, iteF ?_⟩
     refine ⟨_, rfl, b, _, _, _, rfl, rfl, SqT.of hb, q07 (j := 0) rfl, _, _, _, true, rfl, .tup hc, q1d (by decide +kernel), _, rfl, iteF ?_⟩
     refine ⟨_, rfl, b, _, _, _, rfl, rfl, SqT.of hb, q07 (j := 0) rfl, c', _, rfl, .inr (SqT.of hc), rfl, _, rfl, q6f rfl ?_⟩
     refine ⟨_, rfl, b, _, _, _, rfl, rfl, SqT.of hb, q07 (j := 0) rfl, c', _, _, _, rfl, rfl, SqT.of hc, q07 (j := 0) rfl, _, _, _, true, rfl, .str _, q1d (by decide +kernel), _, rfl, iteF ?_⟩
     exact ⟨_, rfl, b, _, _, _, rfl, rfl, SqT.of hb, q07 (j := 0) rfl, c', _, _, _, rfl, rfl, SqT.of hc, q07 (j := 1) rfl, _, rfl, _, rfl, iteF ⟨_, rfl, rfl⟩⟩
   ·rintro σ H3 ⟨v3, rfl, rfl⟩
    exact ⟨_, _, rfl, rfl⟩
  ·rintro σ H2 ⟨v2, v3, rfl, rfl⟩
   exact k
def q74 (H : Hp) (cs : List Addr) (rowss : List (List (Str × Int))) : Prop := cs.length = rowss.length ∧ ∀ (j : Nat) c rows, cs[j]? = some c → rowss[j]? = some rows → ∃ bs rows', H c = some (.lst (bs.map V.ref)) ∧ rows'.Perm rows ∧ q2x rows' ∧ q2a H bs (q6k rows')
theorem q74.same {H H' : Hp} {cs : List Addr} {rowss : List (List (Str × Int))} (h : q74 H cs rowss) (k : Kp [] H H') : q74 H' cs rowss := ⟨h.1, fun j c rows e1 e2 => let ⟨bs, rows', h1, h2, h3, h4⟩ := h.2 j c rows e1 e2; ⟨bs, rows', k.get h1 nEm, h2, h3, h4.same k⟩⟩
def qb7 : Sp := fun vs H Q _ => ∃ (p : Addr) (cs : List Addr) (rowss : List (List (Str × Int))) (c : Nat), vs = [.ref p, .int c] ∧ H p = some (.lst (cs.map V.ref)) ∧ q74 H cs rowss ∧ rowss.length = c ∧ Q (.bl true) H
theorem q92 : FnScope ["_law_found", "_law_count", "_law_rows", "_law_row"] ["_law_found", "_law_count"] (q03 q5m) := ⟨rfl, rfl, rfl, by decide +kernel, rfl, by decide +kernel, by decide +kernel⟩
theorem qer {f : Addr} {fd : FuncData} (Fn : Fun K "_law_are_things" "_law_are_things" q5m f fd) (B : Blt mg) (Dlaw_whole : Df P w K mg base CX0 1 "_law_whole" ["_law_found"] q69) : FnOk P w K mg base CX0 2 f fd ["_law_found", "_law_count"] qb7 := by
 refine Fn.ok q92 (fun vs H Q E h => ?_) (fun cdv A outer s H vs Q E hr h => ?_)
 ·obtain ⟨p, cs, rowss, c, rfl, _⟩ := h
  rfl
 ·obtain ⟨p, cs, rowss, c, rfl, hp, TA, lF, k⟩ := h
  have nd := q92.nd
  refine ⟨_, (q02 (q0w (PW.pt (q34 (q1a (q16 (q0f q0s rfl B.isinstance PyProof.Rows.boot_isinstance (q00 (pv 0) (q00 (q0y rfl B.list_ PyProof.Rows.boot_list (v := .ty "list") rfl) q04))))) (q2f (q0h q6t (q0f q0k rfl B.len PySem.boot_len (q00 (pv 0) q04)) (pv 1) (q0q _)))))
   (q06 (q0a q1p))
   q0b)
   (q02 (q25 PassesOwn.never rfl (q1j (pv 0)) (q10 (i := 2) nd rfl (Or.inl rfl))
   (q02 (q0w (q1a (q16 (q0f q0s rfl B.isinstance PyProof.Rows.boot_isinstance (q00 (pv 2) (q00 (q0y rfl B.list_ PyProof.Rows.boot_list (v := .ty "list") rfl) q04)))))
   (q06 (q0a q1p))
   q0b)
   (q06 (q25 PassesOwn.never rfl (q1j (pv 2)) (q10 (i := 3) nd rfl (Or.inl rfl))
   (q02 (q0w (PW.pt (q34 (q1a (q16 (q0f q0s rfl B.isinstance PyProof.Rows.boot_isinstance (q00 (pv 3) (q00 (q0y rfl B.tuple PyProof.Rows.boot_tuple (v := .ty "tuple") rfl) q04))))) (q2f (q0h q6t (q0f q0k rfl B.len PySem.boot_len (q00 (pv 3) q04)) q01 (q0q _)))))
   (q06 (q0a q1p))
   q0b)
   (q06 (q0w (PW.pt (q34 (q1a (q16 (q0f q0s rfl B.isinstance PyProof.Rows.boot_isinstance (q00 (q0j q0i (pv 3) q01 (fun _ _ => rfl)) (q00 (q0y rfl B.str PyProof.Rows.boot_str (v := .ty "str") rfl) q04))))) (q2f (q1a (q16 (q0z Dlaw_whole (hr.mono (by decide)) q0m (q00 (q0j q0i (pv 3) q01 (fun _ _ => rfl)) q04)))))))
   (q06 (q0a q1p))
   q0b)))))))
   (q06 (q0a q1p)))), ?_⟩
  refine ⟨_, rfl, _, _, _, true, rfl, .lst hp, q1d (by decide +kernel), _, rfl, iteF ?_⟩
  refine ⟨_, rfl, p, _, rfl, .inl (SqL.of hp), _, rfl, rfl, _, rfl, q6f (by rw [List.length_map, TA.1, lF]) ?_⟩
  refine ⟨_, rfl, p, rfl, ⟨_, SqL.of hp⟩, ?_⟩
  refine q1u (xs := cs.map V.ref) (fun i σ H2 => ∃ v2 v3 : Option V, σ = [some (.ref p), some (.int c), v2, v3] ∧ H2 = H) ⟨none, none, rfl, rfl⟩ (fun i σ H2 _ ⟨_, _, _, e⟩ => by rw [e]; exact SqL.of hp) ?_ ?_
  ·rintro i x σ H2 hx ⟨v2, v3, rfl, rfl⟩
   rw [List.getElem?_map] at hx
   cases eq : cs[i]? with
   | none => rw [eq] at hx; cases hx
   | some q =>
   rw [eq] at hx
   obtain rfl : V.ref q = x := Option.some.inj hx
   have hi : i < rowss.length := by rw [← TA.1]; exact (List.getElem?_eq_some_iff.mp eq).1
   obtain ⟨bs, rows', hq, _, _, TR⟩ := TA.2 i q _ eq (List.getElem?_eq_getElem hi)
   generalize q6k rows' = rr at TR
   refine ⟨_, rfl, _, _, _, true, rfl, .lst hq, q1d (by decide +kernel), _, rfl, iteF ?_⟩
   refine ⟨_, rfl, q, rfl, ⟨_, SqL.of hq⟩, ?_⟩
   refine q1u (xs := bs.map V.ref) (fun i σ H2' => ∃ v3 : Option V, σ = [some (.ref p), some (.int c), some (.ref q), v3] ∧ H2' = H2) ⟨_, rfl, rfl⟩ (fun i σ H2' _ ⟨_, _, e⟩ => by rw [e]; exact SqL.of hq) ?_ ?_
   ·rintro j x σ H3 hx ⟨v3, rfl, rfl⟩
    rw [List.getElem?_map] at hx
    cases eb : bs[j]? with
    | none => rw [eb] at hx; cases hx
    | some b =>
     rw [eb] at hx
     obtain rfl : V.ref b = x := Option.some.inj hx
     have hj : j < rr.length := by rw [← TR.1]; exact (List.getElem?_eq_some_iff.mp eb).1
     have hb := TR.2 j b _ eb (List.getElem?_eq_getElem hj)
     generalize rr[j] = row at hb
     refine ⟨_, rfl, _, _, _, true, rfl, .tup hb, q1d (by decide +kernel), _, rfl, iteF ?_⟩
     refine ⟨_, rfl, b, _, rfl, .inr (SqT.of hb), rfl, _, rfl, q6f rfl ?_⟩
     refine ⟨_, rfl, b, _, _, _, rfl, rfl, SqT.of hb, q07 (j := 0) rfl, _, _, _, true, rfl, .str _, q1d (by decide +kernel), _, rfl, iteF ?_⟩
     exact ⟨_, rfl, b, _, _, _, rfl, rfl, SqT.of hb, q07 (j := 1) rfl, _, rfl, _, rfl, iteF ⟨_, rfl, rfl⟩⟩
   ·rintro σ H3 ⟨v3, rfl, rfl⟩
    exact ⟨_, _, rfl, rfl⟩
  ·rintro σ H2 ⟨v2, v3, rfl, rfl⟩
   exact k
def qi4 : Sp := fun vs H Q _ => ∃ x y : Str, vs = [.str x, .str y] ∧ Q (.bl (decide (x = y))) H
theorem qhv : FnScope ["_law_found", "_law_meant", "_law_k"] ["_law_found", "_law_meant"] (q03 sSo) := ⟨rfl, rfl, rfl, by decide +kernel, rfl, by decide +kernel, by decide +kernel⟩
theorem qil {f : Addr} {fd : FuncData} (Fn : Fun K "_law_so" "_law_so" sSo f fd) (B : Blt mg) : FnOk P w K mg base CX0 1 f fd ["_law_found", "_law_meant"] qi4 := by
 refine Fn.ok qhv (fun vs H Q E h => ?_) (fun cdv A outer s H vs Q E hr h => ?_)
 ·obtain ⟨x, y, rfl, _⟩ := h
  rfl
 ·obtain ⟨x, y, rfl, k⟩ := h
  have nd := qhv.nd
  refine ⟨_, (q02 (q0w (q4k (q73 (pv 1)))
   (q06 (q0a (qiu (q73 (pv 0)))))
   q0b)
   (q02 (q0w (q16 (q0f q0s rfl B.isinstance PyProof.Rows.boot_isinstance (q00 (pv 1) (q00 (q0y rfl B.bool PyProof.Rows.boot_bool (v := .ty "bool") rfl) q04))))
   (q06 (q0a (q5k (q0f q0s rfl B.isinstance PyProof.Rows.boot_isinstance (q00 (pv 0) (q00 (q0y rfl B.bool PyProof.Rows.boot_bool (v := .ty "bool") rfl) q04))) (q7y (q6e q23 (pv 0) (pv 1) (q0q _))))))
   q0b)
   (q02 (q0w (q16 (q0f q0s rfl B.isinstance PyProof.Rows.boot_isinstance (q00 (pv 1) (q00 (q0y rfl B.int_ PyProof.Rows.boot_int (v := .ty "int") rfl) q04))))
   (q06 (q0a (q5k (q0f q0s rfl B.isinstance PyProof.Rows.boot_isinstance (q00 (pv 0) (q00 (q0y rfl B.int_ PyProof.Rows.boot_int (v := .ty "int") rfl) q04))) (q5k (qfr (q0f q0s rfl B.isinstance PyProof.Rows.boot_isinstance (q00 (pv 0) (q00 (q0y rfl B.bool PyProof.Rows.boot_bool (v := .ty "bool") rfl) q04)))) (q7y (q6e q23 (pv 0) (pv 1) (q0q _)))))))
   q0b)
   (q02 (q0w (q16 (q0f q0s rfl B.isinstance PyProof.Rows.boot_isinstance (q00 (pv 1) (q00 (q0y rfl B.str PyProof.Rows.boot_str (v := .ty "str") rfl) q04))))
   (q06 (q0a (q5k (q0f q0s rfl B.isinstance PyProof.Rows.boot_isinstance (q00 (pv 0) (q00 (q0y rfl B.str PyProof.Rows.boot_str (v := .ty "str") rfl) q04))) (q7y (q6e q23 (pv 0) (pv 1) (q0q _))))))
   q0b)
   (q02 q3a
   (q02 q3a
   (q02 q3a
   (q02 q3a
   (q02 q3a
   (q06 q3a)))))))))), ?_⟩
  refine ⟨_, rfl, _, rfl, q1o (by intro z; cases z) ?_⟩
  refine ⟨_, rfl, _, _, _, false, rfl, .str _, q1d (by decide +kernel), _, rfl, iteF ?_⟩
  refine ⟨_, rfl, _, _, _, false, rfl, .str _, q1d (by decide +kernel), _, rfl, iteF ?_⟩
  refine ⟨_, rfl, _, _, _, true, rfl, .str _, q1d (by decide +kernel), _, rfl, iteT ?_⟩
  refine ⟨_, rfl, _, _, _, true, rfl, .str _, q1d (by decide +kernel), _, rfl, iteT ?_⟩
  refine ⟨_, rfl, _, rfl, rfl, ?_⟩
  rw [show decide (V.str x = V.str y) = decide (x = y) from decide_eq_decide.mpr ⟨fun z => V.str.inj z, fun z => by rw [z]⟩]
  exact k
def qfj : Sp := fun vs H Q _ => ∃ (l ld : Addr) (b : Int) (as : List Addr) (Ts : List Tb) (ad : List Addr) (ds : List Deed) (n : Nat), vs = [.ref l, .int b, .ref ld] ∧ StoryIn H l ld as Ts ad ds n ∧
 ∀ (p : Addr) (las : List Addr) (H' : Hp), H p = none → H' p = some (.lst (las.map V.ref)) → Losts H' las (runD (newR Ts b) ds).2.lost → Kp [] H H' → Q (.ref p) H'
theorem qee : FnScope ["stocks", "bound", "deeds"] ["stocks", "bound", "deeds"] (q03 q5l) := ⟨rfl, rfl, rfl, by decide +kernel, rfl, by decide +kernel, by decide +kernel⟩
theorem qdw {f C Cd : Addr} {fd : FuncData} (Fn : Fun K "lost_after" "lost_after" q5l f fd) (T : TxtR K mg C) (Drunner_after : Df P w K mg base CX0 11 "runner_after" ["stocks", "bound", "deeds"] (q57 C Cd)) : FnOk P w K mg base CX0 12 f fd ["stocks", "bound", "deeds"] qfj := by
 refine Fn.ok qee (fun vs H Q E h => ?_) (fun cdv A outer sh H vs Q E hr h => ?_)
 ·obtain ⟨l, ld, b, as, Ts, ad, ds, n, rfl, _⟩ := h
  rfl
 ·obtain ⟨l, ld, b, as, Ts, ad, ds, n, rfl, SI, k⟩ := h
  refine ⟨_, (q06 (q0a (q12 (q0z Drunner_after (hr.mono (by decide)) q0m (q00 (pv 0) (q00 (pv 1) (q00 (pv 2) q04)))) rfl))), ?_⟩
  refine ⟨_, rfl, _, rfl, _, rfl, l, ld, b, as, Ts, ad, ds, n, rfl, SI, fun r H1 I1 => ?_⟩
  obtain ⟨tg, dl, wd, td, tr, lo, ps, wa, ta, Pp⟩ := I1.ex
  obtain ⟨dx, ho⟩ := Pp.ob rfl
  obtain ⟨las, hlo, L⟩ := Pp.hlo rfl
  refine ⟨r, C, dx, _, _, rfl, ho, T.cl, T.nLost, q6d .., ?_⟩
  refine k lo las H1 ?_ hlo L I1.kp
  cases e : H lo with
  | none => rfl
  | some o =>
   have := Pp.fr lo o e
   rw [Pp.tlo] at this
   cases this
theorem Losts.same {H H' : Hp} {as : List Addr} {ss : List (Int × Rq)} (h : Losts H as ss) (k : Kp [] H H') : Losts H' as ss := h.tk (Kp.tk k (by simp))
end
end K08
end
section
namespace K08
open PySem L2
theorem w_ne : ¬ (("did" : Str) = "no") ∧ ¬ (("did" : Str) = "unsure") ∧ ¬ (("did" : Str) = "undid") ∧ ¬ (("no" : Str) = "did") ∧ ¬ (("no" : Str) = "unsure") ∧ ¬ (("unsure" : Str) = "did") ∧ ¬ (("unsure" : Str) = "no") ∧ ¬ (("undid" : Str) = "did") ∧ ¬ (("undid" : Str) = "unsure") ∧ ¬ (("undid" : Str) = "no") := by decide +kernel
theorem q3u (R : Rn) (d e : List Deed) : runD R (d ++ e) = ((runD R d).1 ++ (runD (runD R d).2 e).1, (runD (runD R d).2 e).2) := by
 suffices h : ∀ (n : Nat) (e : List Deed), e.length = n → runD R (d ++ e) = ((runD R d).1 ++ (runD (runD R d).2 e).1, (runD (runD R d).2 e).2) from h _ e rfl
 intro n
 induction n with
 | zero =>
  intro e he
  rw [List.length_eq_zero_iff.mp he, List.append_nil, qe6, List.append_nil]
 | succ n ih =>
  intro e he
  obtain ⟨e', x, rfl⟩ : ∃ e' x, e = e' ++ [x] := ⟨e.dropLast, e.getLast (by intro z; rw [z] at he; cases he), (List.dropLast_concat_getLast _).symm⟩
  rw [← List.append_assoc, q26, ih e' (by simpa using he), q26, List.append_assoc]
structure SW (R R' : Rn) : Prop where
 w : R'.works = R.works
 t : R'.trail = R.trail
 u : R'.up = R.up
theorem SW.refl (R : Rn) : SW R R := ⟨rfl, rfl, rfl⟩
theorem q52 (R : Rn) (d : Int) (q : Rq) : SW R (q0n R d q).2 := by
 unfold q0n
 split
 ·exact ⟨rfl, rfl, rfl⟩
 ·exact SW.refl R
theorem qgj (R : Rn) (d : Int) (q : Rq) (luck : Str) : ∃ R1, q2c R d q luck = (if luck = "ok" then some (q0n R d q).1 else none, R1) ∧ SW R R1 := by
 unfold q2c
 by_cases h : luck = "lost"
 ·exact ⟨{ R with lost := R.lost ++ [(d, q)] }, by rw [if_pos h, if_neg (by rw [h]; decide +kernel)], ⟨rfl, rfl, rfl⟩⟩
 ·exact ⟨_, by rw [if_neg h], q52 R d q⟩
theorem q4w {R : Rn} {n : Nat} {x : Str} {ss : List Stp} {s : Stp} (ok : RnOk R n) (hm : (x, ss) ∈ R.works) (hs : s ∈ ss) (q : Rq) : (q.word = "do" → (q0n R s.d q).1 = "did" ∨ (q0n R s.d q).1 = "no") ∧ (q.word = "undo" → (q0n R s.d q).1 = "undid") := by
 have hd := ok.sd x ss hm s hs
 have hi : s.d.toNat < R.desks.length := by omega
 unfold q0n
 rw [List.getElem?_eq_getElem hi]
 generalize R.desks[s.d.toNat] = p
 obtain ⟨T, F⟩ := p
 dsimp only
 unfold q20
 refine ⟨fun h => ?_, fun h => ?_⟩
 ·rw [if_pos h]
  unfold doM
  split
  ·split
   ·exact .inr rfl
   ·exact .inl rfl
  ·dsimp only
   split
   ·exact .inl rfl
   ·exact .inr rfl
 ·rw [if_neg (by rw [h]; decide +kernel)]
  rfl
structure Wr (R R' : Rn) (x : Str) (e : En) : Prop where
 w : R'.works = R.works
 u : R'.up = R.up
 t : R'.trail = fun y => if y = x then R.trail x ++ [e] else R.trail y
theorem q5i {R R1 : Rn} (s : SW R R1) (x : Str) (e : En) : Wr R (q1v R1 x e) x e := ⟨s.w, s.u, by show (fun y => if y = x then R1.trail x ++ [e] else R1.trail y) = _; rw [s.t]⟩
theorem att {R : Rn} {n : Nat} {x luck : Str} {ss : List Stp} {s : Stp} {u : Bool} {i : Int} (ok : RnOk R n) (hm : (x, ss) ∈ R.works) (hs : s ∈ ss) :
  (∃ R', q0x R x s u i luck = (none, R') ∧ ¬ luck = "ok" ∧ SW R R') ∨ ∃ y R', q0x R x s u i luck = (some (y, i), R') ∧ (u = false → y = "did" ∨ y = "no" ∨ (y = "unsure" ∧ ¬ luck = "ok")) ∧ (u = true → y = "undid") ∧ Wr R R' x (y, i) := by
 obtain ⟨R1, e1, s1⟩ := qgj R s.d (reqM x s (if u = true then "undo" else "do") i) luck
 have aw := q4w ok hm hs (reqM x s (if u = true then "undo" else "do") i)
 unfold q0x
 rw [e1]
 by_cases h : luck = "ok"
 ·rw [if_pos h]
  refine .inr ⟨_, _, rfl, fun hu => ?_, fun hu => ?_, q5i s1 _ _⟩
  ·subst hu
   rcases aw.1 rfl with z | z
   ·exact .inl z
   ·exact .inr (.inl z)
  ·subst hu
   exact aw.2 rfl
 ·rw [if_neg h]
  cases u with
  | true => exact .inl ⟨R1, rfl, h, s1⟩
  | false =>
   have e2 : q0v R1 x false = (if R1.bound ≤ getI R1.tries x + 1 then some ("unsure" : Str) else none, { R1 with tries := putK R1.tries (Sum.inr x : Key) (.int (getI R1.tries x + 1)) }) := rfl
   have s2 : SW R { R1 with tries := putK R1.tries (Sum.inr x : Key) (.int (getI R1.tries x + 1)) } := ⟨s1.w, s1.t, s1.u⟩
   dsimp only
   rw [e2]
   by_cases hb : R1.bound ≤ getI R1.tries x + 1
   ·rw [if_pos hb]
    exact .inr ⟨"unsure", _, rfl, fun _ => .inr (.inr ⟨rfl, h⟩), (fun z => by cases z), q5i s2 _ _⟩
   ·rw [if_neg hb]
    exact .inl ⟨_, rfl, h, s2⟩
theorem q8z {R : Rn} {n : Nat} {x luck : Str} {ss : List Stp} (ok : RnOk R n) (up : R.up = true) (hw : R.wk x = some ss) :
  ((nxOf ss.length (R.trail x) = .dn ∨ nxOf ss.length (R.trail x) = .ud) ∧ goM R x luck = (.str "ended", R)) ∨ (∃ R', goM R x luck = (.non, R') ∧ ¬ luck = "ok" ∧ SW R R') ∨
   ∃ e R', goM R x luck = (.en e, R') ∧ q5p e (nxOf ss.length (R.trail x)) = true ∧ (luck = "ok" → ¬ e.1 = "unsure") ∧ Wr R R' x e := by
 have hm : (x, ss) ∈ R.works := q2k hw
 unfold goM
 rw [up, if_neg (by decide), hw]
 dsimp only
 cases e : nxOf ss.length (R.trail x) with
 | dn => exact .inl ⟨.inl rfl, rfl⟩
 | ud => exact .inl ⟨.inr rfl, rfl⟩
 | dO i =>
  have hi := ok.next hm (.inl e)
  have hl : i.toNat < ss.length := by omega
  have es : ss[i.toNat]? = some ss[i.toNat] := List.getElem?_eq_getElem hl
  dsimp only
  rw [es]
  dsimp only
  rcases att (luck := luck) (u := false) (i := i) ok hm (List.getElem_mem hl) with ⟨R', h1, h2, h3⟩ | ⟨y, R', h1, h2, h3, h4⟩
  ·rw [h1]; exact .inr (.inl ⟨R', rfl, h2, h3⟩)
  ·rw [h1]
   refine .inr (.inr ⟨(y, i), R', rfl, ?_, fun hk z => ?_, h4⟩)
   ·unfold q5p
    refine decide_eq_true ⟨?_, rfl⟩
    rcases h2 rfl with z | z | ⟨z, _⟩
    ·exact .inl z
    ·exact .inr (.inl z)
    ·exact .inr (.inr z)
   ·rcases h2 rfl with q | q | ⟨_, q⟩
    ·rw [q] at z; exact absurd z (show ¬ (("did" : Str) = "unsure") by decide +kernel)
    ·rw [q] at z; exact absurd z (show ¬ (("no" : Str) = "unsure") by decide +kernel)
    ·exact q hk
 | un i =>
  have hi := ok.next hm (.inr e)
  have hl : i.toNat < ss.length := by omega
  have es : ss[i.toNat]? = some ss[i.toNat] := List.getElem?_eq_getElem hl
  dsimp only
  rw [es]
  dsimp only
  rcases att (luck := luck) (u := true) (i := i) ok hm (List.getElem_mem hl) with ⟨R', h1, h2, h3⟩ | ⟨y, R', h1, h2, h3, h4⟩
  ·rw [h1]; exact .inr (.inl ⟨R', rfl, h2, h3⟩)
  ·rw [h1]
   have ey := h3 rfl
   refine .inr (.inr ⟨(y, i), R', rfl, ?_, fun hk z => ?_, h4⟩)
   ·unfold q5p
    exact decide_eq_true ⟨ey, rfl⟩
   ·rw [ey] at z; exact absurd z (show ¬ (("undid" : Str) = "unsure") by decide +kernel)
theorem q8w {R : Rn} {x : Str} {ss : List Stp} : (q1c R (.start x ss)).2 = R ∨ (R.wk x = none ∧ (q1c R (.start x ss)).2 = { R with works := R.works ++ [(x, ss)], trail := fun y => if y = x then [] else R.trail y }) := by
 show (q2b R x ss).2 = R ∨ _ ∧ (q2b R x ss).2 = _
 unfold q2b
 split
 ·cases h : R.wk x with
  | some _ => exact .inl rfl
  | none => exact .inr ⟨rfl, rfl⟩
 ·exact .inl rfl
def q9e (ws : List (Str × List Stp)) : Deed → List (Str × List Stp)
 | .start x ss => if wkF ws x = none then ws ++ [(x, ss)] else ws
 | _ => ws
def q0l (ds : List Deed) : List (Str × List Stp) := ds.foldl q9e []
theorem q22 (ds : List Deed) (d : Deed) : q0l (ds ++ [d]) = q9e (q0l ds) d := by unfold q0l; rw [List.foldl_append]; rfl
theorem qa6 {R : Rn} {n : Nat} (ok : RnOk R n) (d : Deed) (hd : ∀ x ss, d = .start x ss → ∀ s ∈ ss, 0 ≤ s.d ∧ s.d < R.desks.length) : (q1c R d).2.works = q9e R.works d := by
 cases d with
 | start x ss =>
  have hi : (ss.all fun s => inD R s.d) = true := by
   rw [List.all_eq_true]
   intro s hs
   have := hd x ss rfl s hs
   unfold inD
   rw [decide_eq_true this.1, decide_eq_true this.2]
   rfl
  show (q2b R x ss).2.works = if wkF R.works x = none then R.works ++ [(x, ss)] else R.works
  unfold q2b Rn.wk
  rw [if_pos hi]
  cases h : wkF R.works x with
  | none => rfl
  | some v => rfl
 | go x luck =>
  show (goM R x luck).2.works = R.works
  by_cases up : R.up = true
  ·cases hw : R.wk x with
   | none => unfold goM; rw [up, if_neg (by decide), hw]
   | some ss =>
    rcases q8z (luck := luck) ok up hw with ⟨_, e⟩ | ⟨R', e, _, s⟩ | ⟨en, R', e, hs, _, w⟩
    ·rw [e]
    ·rw [e]; exact s.w
    ·rw [e]; exact w.w
  ·have : R.up = false := by cases hh : R.up with | true => exact absurd hh up | false => rfl
   unfold goM
   rw [if_pos this]
 | late i =>
  show (q2w R i).2.works = R.works
  unfold q2w
  split
  ·rfl
  ·split
   ·exact (q52 R _ _).w
   ·rfl
 | fill d x m =>
  show (q2t R d x m).2.works = R.works
  unfold q2t
  split
  ·split
   ·rfl
   ·rfl
  ·rfl
 | stop =>
  show (if R.up = true then (An.bl true, ({ R with up := false, tries := [] } : Rn)) else (.bl false, R)).2.works = R.works
  split
  ·rfl
  ·rfl
 | wake =>
  show (if R.up = true then (An.bl false, R) else (.bl true, { R with up := true })).2.works = R.works
  split
  ·rfl
  ·rfl
theorem qc6 {R : Rn} {n : Nat} {c : Int} (ok : RnOk R n) (hc : (R.desks.length : Int) = c) (h0 : R.works = []) : ∀ (ds : List Deed), (∀ d ∈ ds, ∀ x ss, d = .start x ss → ss.length ≤ 1000 ∧ ∀ s ∈ ss, 0 ≤ s.d ∧ s.d < c) → (runD R ds).2.works = q0l ds := by
 suffices g : ∀ (k : Nat) (es : List Deed), es.length = k → (∀ d ∈ es, ∀ x ss, d = .start x ss → ss.length ≤ 1000 ∧ ∀ s ∈ ss, 0 ≤ s.d ∧ s.d < c) → (runD R es).2.works = q0l es from fun ds => g _ ds rfl
 intro k
 induction k with
 | zero => intro es he _; rw [List.length_eq_zero_iff.mp he]; exact h0
 | succ k ih =>
  intro es he hz
  obtain ⟨es', d, rfl⟩ := q3o (l := es) (by intro z; rw [z] at he; cases he)
  have hz' : ∀ d ∈ es', ∀ x ss, d = .start x ss → ss.length ≤ 1000 ∧ ∀ s ∈ ss, 0 ≤ s.d ∧ s.d < c := fun d hd => hz d (List.mem_append_left _ hd)
  rw [q26, q22, ← ih es' (by simpa using he) hz']
  refine qa6 (ok.run es' fun d hd x ss e => (hz' d hd x ss e).1) d fun x ss e s hs => ?_
  rw [(q2e R es').1, hc]
  exact (hz d (by simp) x ss e).2 s hs
theorem q6m {α : Type} [DecidableEq α] : ∀ {xs ys : List α}, xs.Nodup → (∀ x ∈ xs, x ∈ ys) → xs.length ≤ ys.length
 | [], _, _, _ => Nat.zero_le _
 | x :: xs, ys, nd, h => by
  rw [List.nodup_cons] at nd
  have hx := h x (.head _)
  have := q6m (xs := xs) (ys := ys.erase x) nd.2 fun y hy => (List.mem_erase_of_ne (fun z => nd.1 (by rw [← z]; exact hy))).mpr (h y (.tail _ hy))
  rw [List.length_erase_of_mem hx] at this
  have : 0 < ys.length := List.length_pos_of_mem hx
  rw [List.length_cons]
  omega
theorem q5c {P : Str → List Stp → Prop} : ∀ (ds : List Deed), (∀ d ∈ ds, ∀ x ss, d = .start x ss → P x ss) → ∀ w ∈ q0l ds, P w.1 w.2 := by
 suffices g : ∀ (k : Nat) (es : List Deed), es.length = k → (∀ d ∈ es, ∀ x ss, d = .start x ss → P x ss) → ∀ w ∈ q0l es, P w.1 w.2 from fun ds => g _ ds rfl
 intro k
 induction k with
 | zero => intro es he _ w hw; rw [List.length_eq_zero_iff.mp he] at hw; simp [q0l] at hw
 | succ k ih =>
  intro es he hz w hw
  obtain ⟨es', d, rfl⟩ := q3o (l := es) (by intro z; rw [z] at he; cases he)
  have ih' := ih es' (by simpa using he) fun d hd => hz d (List.mem_append_left _ hd)
  rw [q22] at hw
  cases d with
  | start x ss =>
   have hw : w ∈ (if wkF (q0l es') x = none then q0l es' ++ [(x, ss)] else q0l es') := hw
   split at hw
   ·rw [List.mem_append] at hw
    rcases hw with z | z
    ·exact ih' w z
    ·simp at z; subst z; exact hz _ (by simp) x ss rfl
   ·exact ih' w hw
  | _ => exact ih' w hw
def mu (m : Nat) : Nx → Nat
 | .dO i => 2 * m - i.toNat
 | .un i => i.toNat + 1
 | _ => 0
theorem qgq {m : Nat} {c : Nx} (h : mu m c = 0) (hi : ∀ i, c = .dO i → 0 ≤ i ∧ i < m) : c = .dn ∨ c = .ud := by
 cases c with
 | dO i => have := hi i rfl; simp [mu] at h; omega
 | un i => simp [mu] at h
 | dn => exact .inl rfl
 | ud => exact .inr rfl
theorem qgy {m : Nat} {c : Nx} {e : En} (h0 : ∀ i, c = .dO i ∨ c = .un i → 0 ≤ i ∧ i < m) (hs : q5p e c = true) (hu : ¬ e.1 = "unsure") : mu m (nb m e) < mu m c := by
 obtain ⟨n1, n2, n3, n4, n5, n6, n7, n8, n9, n10⟩ := w_ne
 obtain ⟨y, k⟩ := e
 cases c with
 | dO i =>
  have hi := h0 i (.inl rfl)
  have hs := of_decide_eq_true hs
  dsimp only at hs hu
  obtain ⟨hw, rfl⟩ := hs
  unfold nb
  dsimp only
  rcases hw with rfl | rfl | rfl
  ·rw [if_pos rfl]
   unfold doD
   split
   ·simp [mu]; omega
   ·simp [mu]; omega
  ·rw [if_neg n4, if_neg n5]
   unfold unD
   split
   ·simp [mu]; omega
   ·simp [mu]; omega
  ·exact absurd rfl hu
 | un i =>
  have hi := h0 i (.inr rfl)
  have hs := of_decide_eq_true hs
  dsimp only at hs hu
  obtain ⟨rfl, rfl⟩ := hs
  unfold nb
  dsimp only
  rw [if_neg n8, if_neg n9]
  unfold unD
  split
  ·simp [mu]; omega
  ·simp [mu]
 | dn => cases hs
 | ud => cases hs
structure Walk (R R' : Rn) (x : Str) : Prop where
 w : R'.works = R.works
 u : R'.up = R.up
 oth : ∀ y, ¬ y = x → R'.trail y = R.trail y
 pre : ∃ t, R'.trail x = R.trail x ++ t
theorem Walk.refl (R : Rn) (x : Str) : Walk R R x := ⟨rfl, rfl, fun _ _ => rfl, [], by simp⟩
theorem Walk.trans {R R1 R2 : Rn} {x : Str} (a : Walk R R1 x) (b : Walk R1 R2 x) : Walk R R2 x := by
 obtain ⟨t, e⟩ := a.pre
 obtain ⟨t', e'⟩ := b.pre
 exact ⟨b.w.trans a.w, b.u.trans a.u, fun y h => (b.oth y h).trans (a.oth y h), t ++ t', by rw [e', e, List.append_assoc]⟩
theorem Wr.walk {R R' : Rn} {x : Str} {e : En} (w : Wr R R' x e) : Walk R R' x := ⟨w.w, w.u, fun y h => by rw [w.t]; dsimp only; rw [if_neg h], [e], by rw [w.t]; dsimp only; rw [if_pos rfl]⟩
theorem gos {x : Str} {ss : List Stp} : ∀ (k : Nat) {R : Rn} {n : Nat}, RnOk R n → R.up = true → R.wk x = some ss → mu ss.length (nxOf ss.length (R.trail x)) ≤ k →
  Walk R (runD R (List.replicate k (.go x "ok"))).2 x ∧ (nxOf ss.length ((runD R (List.replicate k (.go x "ok"))).2.trail x) = .dn ∨ nxOf ss.length ((runD R (List.replicate k (.go x "ok"))).2.trail x) = .ud)
 | 0, R, n, ok, up, hw, h => ⟨Walk.refl R x, qgq (Nat.le_zero.mp h) fun i e => ok.next (q2k hw) (.inl e)⟩
 | k + 1, R, n, ok, up, hw, h => by
  have e0 : runD R (List.replicate (k + 1) (.go x "ok")) = ((goM R x "ok").1 :: (runD (goM R x "ok").2 (List.replicate k (.go x "ok"))).1, (runD (goM R x "ok").2 (List.replicate k (.go x "ok"))).2) := by
   have := q3u R [.go x "ok"] (List.replicate k (.go x "ok"))
   rw [List.replicate_succ]
   exact this
  rw [e0]
  dsimp only
  have ok1 : RnOk (goM R x "ok").2 (n + 1) := ok.deed (.go x "ok") fun y tt z => by cases z
  rcases q8z (luck := "ok") ok up hw with ⟨he, e⟩ | ⟨R', e, hn, _⟩ | ⟨en, R', e, hs, hu, w⟩
  ·rw [e] at ok1 ⊢
   refine gos k ok1 up hw ?_
   rcases he with z | z <;> rw [z] <;> exact Nat.zero_le _
  ·exact absurd rfl hn
  ·rw [e] at ok1 ⊢
   dsimp only at ok1 ⊢
   have et : R'.trail x = R.trail x ++ [en] := by rw [w.t]; dsimp only; rw [if_pos rfl]
   have hw' : R'.wk x = some ss := by unfold Rn.wk at hw ⊢; rw [w.w]; exact hw
   have hmu := qgy (m := ss.length) (fun i z => ok.next (q2k hw) z) hs (hu rfl)
   obtain ⟨a, b⟩ := gos k ok1 (w.u.trans up) hw' (by rw [et, q2g]; omega)
   exact ⟨w.walk.trans a, b⟩
theorem qbp {R : Rn} {n : Nat} {x : Str} {ss : List Stp} (ok : RnOk R n) (h : (x, ss) ∈ R.works) : R.wk x = some ss := by
 cases e : R.wk x with
 | none => exact absurd rfl (q3h e _ h)
 | some tt => rw [q4u ok (q2k e) h]
structure EndsW (R R' : Rn) (ws : List (Str × List Stp)) : Prop where
 w : R'.works = R.works
 u : R'.up = R.up
 pre : ∀ x, ∃ t, R'.trail x = R.trail x ++ t
 oth : ∀ y, y ∉ ws.map (·.1) → R'.trail y = R.trail y
 fin : ∀ v ∈ ws, nxOf v.2.length (R'.trail v.1) = .dn ∨ nxOf v.2.length (R'.trail v.1) = .ud
theorem qhu {x : Str} {k : Nat} {l : Str} : ∀ d ∈ List.replicate k (Deed.go x l), ∀ y ss, d = .start y ss → ss.length ≤ 1000 := fun d hd y ss e => by
 rw [List.mem_replicate] at hd
 rw [hd.2] at e
 cases e
def dids (k : Nat) : List En := (List.range k).map fun (j : Nat) => (("did" : Str), (j : Int))
def undn (top : Int) (r : Nat) : List En := (List.range r).map fun (q : Nat) => (("undid" : Str), top - (q : Int))
theorem qf7 (k : Nat) : dids (k + 1) = dids k ++ [(("did" : Str), (k : Int))] := by unfold dids; rw [List.range_succ, List.map_append]; rfl
theorem q93 (top : Int) (r : Nat) : undn top (r + 1) = undn top r ++ [(("undid" : Str), top - (r : Int))] := by unfold undn; rw [List.range_succ, List.map_append]; rfl
inductive Ph where
 | up (j : Nat) | no (j r : Nat) | un (j r : Nat)
def Ph.tr : Ph → List En
 | .up j => dids j
 | .no j r => dids j ++ [(("no" : Str), (j : Int))] ++ undn ((j : Int) - 1) r
 | .un j r => dids j ++ [(("unsure" : Str), (j : Int))] ++ undn j r
def Ph.nx (m : Nat) : Ph → Nx
 | .up j => doD m j
 | .no j r => unD ((j : Int) - 1 - r)
 | .un j r => unD ((j : Int) - r)
def Ph.ok (m : Nat) : Ph → Prop
 | .up j => j ≤ m
 | .no j r => j < m ∧ r ≤ j
 | .un j r => j < m ∧ r ≤ j + 1
theorem Ph.nx_of (m : Nat) (p : Ph) : nxOf m p.tr = p.nx m := by
 obtain ⟨n1, n2, n3, n4, n5, n6, n7, n8, n9, n10⟩ := w_ne
 cases p with
 | up j =>
  cases j with
  | zero => rfl
  | succ j =>
   show nxOf m (dids (j + 1)) = doD m ((j + 1 : Nat) : Int)
   rw [qf7, q2g]
   unfold nb
   rw [if_pos rfl]
   rfl
 | no j r =>
  cases r with
  | zero =>
   show nxOf m (dids j ++ [(("no" : Str), (j : Int))] ++ []) = _
   rw [List.append_nil, q2g]
   unfold nb
   dsimp only
   rw [if_neg n4, if_neg n5]
   show unD _ = unD _
   congr 1 <;> omega
  | succ r =>
   show nxOf m (dids j ++ [(("no" : Str), (j : Int))] ++ undn ((j : Int) - 1) (r + 1)) = unD ((j : Int) - 1 - ((r + 1 : Nat) : Int))
   rw [q93, ← List.append_assoc, q2g]
   unfold nb
   dsimp only
   rw [if_neg n8, if_neg n9]
   congr 1 <;> omega
 | un j r =>
  cases r with
  | zero =>
   show nxOf m (dids j ++ [(("unsure" : Str), (j : Int))] ++ []) = _
   rw [List.append_nil, q2g]
   unfold nb
   dsimp only
   rw [if_neg n6, if_pos rfl]
   show unD _ = unD _
   congr 1 <;> omega
  | succ r =>
   show nxOf m (dids j ++ [(("unsure" : Str), (j : Int))] ++ undn (j : Int) (r + 1)) = unD ((j : Int) - ((r + 1 : Nat) : Int))
   rw [q93, ← List.append_assoc, q2g]
   unfold nb
   dsimp only
   rw [if_neg n8, if_neg n9]
   congr 1 <;> omega
def Wok : Ph → Nat → Option V → Prop
 | .up j, k, W => (k < j → W = some (.str "did")) ∧ (k = j → W = none ∨ W = some (.str "did") ∨ W = some (.str "no")) ∧ (j < k → W = none)
 | .no j r, k, W => (j < k → W = none) ∧ (k = j → W = some (.str "no")) ∧ (k < j → (j < k + 1 + r → W = some (.str "undid")) ∧ (j = k + 1 + r → W = some (.str "did") ∨ W = some (.str "undid")) ∧ (k + 1 + r < j → W = some (.str "did")))
 | .un j r, k, W => (j < k → W = none) ∧ (k ≤ j → (j < k + r → W = some (.str "undid")) ∧ (j = k + r → k < j → W = some (.str "did") ∨ W = some (.str "undid")) ∧ (k + r < j → W = some (.str "did")))
def Okq : Ph → Nat → Bool → Prop
 | .up j, k, u => u = false ∧ k ≤ j
 | .no j r, k, u => (u = false ∧ k ≤ j) ∨ (u = true ∧ k < j ∧ j ≤ k + 1 + r)
 | .un j r, k, u => (u = false ∧ k ≤ j) ∨ (u = true ∧ k ≤ j ∧ j ≤ k + r)
theorem Wok.do_ {p : Ph} {k : Nat} {W W' : Option V} (h : Wok p k W) (q : Okq p k false) (e : (W = none ∧ (W' = some (.str "did") ∨ W' = some (.str "no"))) ∨ (W ≠ none ∧ W' = W)) : Wok p k W' := by
 rcases e with ⟨e1, e2⟩ | ⟨_, rfl⟩
 ·cases p with
  | up j =>
   obtain ⟨h1, h2, h3⟩ := h
   refine ⟨fun z => ?_, fun z => ?_, fun z => ?_⟩
   ·rw [h1 z] at e1; cases e1
   ·exact .inr e2
   ·have := q.2; omega
  | no j r =>
   obtain ⟨h1, h2, h3⟩ := h
   rcases q with ⟨_, q⟩ | ⟨q, _⟩
   ·by_cases z : k = j
    ·rw [h2 z] at e1; cases e1
    ·have h3 := h3 (by omega)
     by_cases z1 : j < k + 1 + r
     ·rw [h3.1 z1] at e1; cases e1
     ·by_cases z2 : j = k + 1 + r
      ·rcases h3.2.1 z2 with y | y <;> rw [y] at e1 <;> cases e1
      ·rw [h3.2.2 (by omega)] at e1; cases e1
   ·cases q
  | un j r =>
   obtain ⟨h1, h2⟩ := h
   rcases q with ⟨_, q⟩ | ⟨q, _⟩
   ·have h2 := h2 q
    refine ⟨fun z => by omega, fun _ => ⟨fun z => ?_, fun z z' => ?_, fun z => ?_⟩⟩
    ·rw [h2.1 z] at e1; cases e1
    ·rcases h2.2.1 z z' with y | y <;> rw [y] at e1 <;> cases e1
    ·rw [h2.2.2 z] at e1; cases e1
   ·cases q
 ·exact h
theorem Wok.undo {p : Ph} {k : Nat} {W : Option V} (h : Wok p k W) (q : Okq p k true) : Wok p k (some (.str "undid")) := by
 cases p with
 | up j => exact absurd q.1 (by decide)
 | no j r =>
  rcases q with ⟨q, _⟩ | ⟨_, q1, q2⟩
  ·cases q
  ·exact ⟨fun z => by omega, fun z => by omega, fun _ => ⟨fun _ => rfl, fun _ => .inr rfl, fun z => by omega⟩⟩
 | un j r =>
  rcases q with ⟨q, _⟩ | ⟨_, q1, q2⟩
  ·cases q
  ·exact ⟨fun z => by omega, fun _ => ⟨fun _ => rfl, fun _ _ => .inr rfl, fun z => by omega⟩⟩
theorem Ph.step {m : Nat} {p : Ph} (ok : p.ok m) {e : En} (hs : q5p e (p.nx m) = true) :
  ∃ (p' : Ph) (i : Nat) (u : Bool), e.2 = (i : Int) ∧ i < m ∧ p.nx m = (if u = true then .un i else .dO i) ∧ p'.ok m ∧ p'.tr = p.tr ++ [e] ∧ (∀ k v, Okq p k v → Okq p' k v) ∧ Okq p i u ∧
   ∀ k W, Wok p k W → (k = i → (u = false → (e.1 = "did" ∧ W = some (.str "did")) ∨ (e.1 = "no" ∧ W = some (.str "no")) ∨ e.1 = "unsure") ∧ (u = true → W = some (.str "undid"))) → Wok p' k W := by
 obtain ⟨n1, n2, n3, n4, n5, n6, n7, n8, n9, n10⟩ := w_ne
 obtain ⟨y, i0⟩ := e
 cases p with
 | up j =>
  have ok : j ≤ m := ok
  by_cases hj : j < m
  ·have en : (Ph.up j).nx m = .dO (j : Int) := by show doD m j = _; unfold doD; rw [if_pos (by omega)]
   rw [en] at hs
   have hs := of_decide_eq_true hs
   dsimp only at hs
   obtain ⟨hw, rfl⟩ := hs
   rcases hw with rfl | rfl | rfl
   ·refine ⟨.up (j + 1), j, false, rfl, hj, by rw [en]; rfl, hj, qf7 j, fun k v h => ⟨h.1, by have := h.2; omega⟩, ⟨rfl, Nat.le_refl _⟩, fun k W h g => ?_⟩
    obtain ⟨h1, h2, h3⟩ := h
    refine ⟨fun z => ?_, fun z => .inl (h3 (by omega)), fun z => h3 (by omega)⟩
    by_cases y : k = j
    ·rcases (g y).1 rfl with ⟨_, q⟩ | ⟨q, _⟩ | q
     ·exact q
     ·exact absurd q n1
     ·exact absurd q n2
    ·exact h1 (by omega)
   ·refine ⟨.no j 0, j, false, rfl, hj, by rw [en]; rfl, ⟨hj, Nat.zero_le _⟩, by show dids j ++ [_] ++ [] = _; rw [List.append_nil]; rfl, fun k v h => .inl h, ⟨rfl, Nat.le_refl _⟩, fun k W h g => ?_⟩
    obtain ⟨h1, h2, h3⟩ := h
    refine ⟨fun z => h3 z, fun z => ?_, fun z => ⟨fun z' => by omega, fun z' => .inl (h1 z), fun _ => h1 z⟩⟩
    rcases (g z).1 rfl with ⟨q, _⟩ | ⟨_, q⟩ | q
    ·exact absurd q n4
    ·exact q
    ·exact absurd q n5
   ·refine ⟨.un j 0, j, false, rfl, hj, by rw [en]; rfl, ⟨hj, Nat.zero_le _⟩, by show dids j ++ [_] ++ [] = _; rw [List.append_nil]; rfl, fun k v h => .inl h, ⟨rfl, Nat.le_refl _⟩, fun k W h g => ?_⟩
    obtain ⟨h1, h2, h3⟩ := h
    exact ⟨fun z => h3 z, fun z => ⟨fun z' => by omega, fun z' z'' => by omega, fun z' => h1 (by omega)⟩⟩
  ·have en : (Ph.up j).nx m = .dn := by show doD m j = _; unfold doD; rw [if_neg (by omega)]
   rw [en] at hs
   cases hs
 | no j r =>
  obtain ⟨ok1, ok2⟩ := ok
  by_cases hr : r < j
  ·obtain ⟨i, hi⟩ : ∃ i : Nat, j = i + 1 + r := ⟨j - 1 - r, by omega⟩
   have en : (Ph.no j r).nx m = .un (i : Int) := by show unD _ = _; unfold unD; rw [if_pos (by omega)]; congr 1; omega
   rw [en] at hs
   have hs := of_decide_eq_true hs
   dsimp only at hs
   obtain ⟨rfl, rfl⟩ := hs
   refine ⟨.no j (r + 1), i, true, rfl, by omega, by rw [en]; rfl, ⟨ok1, hr⟩, ?_, fun k v h => ?_, .inr ⟨rfl, by omega, by omega⟩, fun k W h g => ?_⟩
   ·show dids j ++ [_] ++ undn _ (r + 1) = dids j ++ [_] ++ undn _ r ++ [_]
    rw [q93, ← List.append_assoc]
    congr 3
    omega
   ·rcases h with h | ⟨h1, h2, h3⟩
    ·exact .inl h
    ·exact .inr ⟨h1, h2, by omega⟩
   ·obtain ⟨h1, h2, h3⟩ := h
    refine ⟨h1, h2, fun z => ⟨fun z' => ?_, fun z' => .inl ((h3 z).2.2 (by omega)), fun z' => (h3 z).2.2 (by omega)⟩⟩
    by_cases y : k = i
    ·exact (g y).2 rfl
    ·exact (h3 z).1 (by omega)
  ·have en : (Ph.no j r).nx m = .ud := by show unD _ = _; unfold unD; rw [if_neg (by omega)]
   rw [en] at hs
   cases hs
 | un j r =>
  obtain ⟨ok1, ok2⟩ := ok
  by_cases hr : r ≤ j
  ·obtain ⟨i, hi⟩ : ∃ i : Nat, j = i + r := ⟨j - r, by omega⟩
   have en : (Ph.un j r).nx m = .un (i : Int) := by show unD _ = _; unfold unD; rw [if_pos (by omega)]; congr 1; omega
   rw [en] at hs
   have hs := of_decide_eq_true hs
   dsimp only at hs
   obtain ⟨rfl, rfl⟩ := hs
   refine ⟨.un j (r + 1), i, true, rfl, by omega, by rw [en]; rfl, ⟨ok1, by omega⟩, ?_, fun k v h => ?_, .inr ⟨rfl, by omega, by omega⟩, fun k W h g => ?_⟩
   ·show dids j ++ [_] ++ undn _ (r + 1) = dids j ++ [_] ++ undn _ r ++ [_]
    rw [q93, ← List.append_assoc]
    congr 3
    omega
   ·rcases h with h | ⟨h1, h2, h3⟩
    ·exact .inl h
    ·exact .inr ⟨h1, h2, by omega⟩
   ·obtain ⟨h1, h2⟩ := h
    refine ⟨h1, fun z => ⟨fun z' => ?_, fun z' z'' => .inl ((h2 z).2.2 (by omega)), fun z' => (h2 z).2.2 (by omega)⟩⟩
    by_cases y : k = i
    ·exact (g y).2 rfl
    ·exact (h2 z).1 (by omega)
  ·have en : (Ph.un j r).nx m = .ud := by show unD _ = _; unfold unD; rw [if_neg (by omega)]
   rw [en] at hs
   cases hs
def q19 (R : Rn) (d : Int) (x : Str) (k : Nat) : Option V := match R.desks[d.toNat]? with
 | some (_, F) => valV F (kk x k)
 | none => none
theorem qjn {x y : Str} {i j : Nat} (h : ¬ (x = y ∧ i = j)) : kk x i ≠ kk y j := fun z => by
 unfold kk at z
 have z1 := (List.cons.inj z).1
 have z2 := (List.cons.inj (List.cons.inj z).2).1
 have e1 : x = y := by injection z1
 have e2 : (i : Int) = j := by injection z2
 exact h ⟨e1, by omega⟩
structure KI (R : Rn) (ph : Str → Ph) : Prop where
 tr : ∀ x ss, (x, ss) ∈ R.works → (ph x).ok ss.length ∧ R.trail x = (ph x).tr
 wd : ∀ x ss, (x, ss) ∈ R.works → ∀ (k : Nat) s, ss[k]? = some s → Wok (ph x) k (q19 R s.d x k)
 lo : ∀ p ∈ R.lost, ∃ x ss, (x, ss) ∈ R.works ∧ ∃ (k : Nat) (s : Stp) (u : Bool), ss[k]? = some s ∧ p = (s.d, reqM x s (if u = true then "undo" else "do") k) ∧ Okq (ph x) k u
 ks : ∀ (i : Nat) T F, R.desks[i]? = some (T, F) → ∀ key v, valV F key = some v → ∃ x ss, (x, ss) ∈ R.works ∧ ∃ k : Nat, key = kk x k
theorem KI.new (Ts : List Tb) (b : Int) : KI (newR Ts b) fun _ => .up 0 := by
 refine ⟨fun x ss h => by simp [newR] at h, fun x ss h => by simp [newR] at h, fun p h => by simp [newR] at h, fun i T F h key v e => ?_⟩
 simp only [newR, List.getElem?_map] at h
 cases e2 : Ts[i]? with
 | none => rw [e2] at h; cases h
 | some T' => rw [e2] at h; cases h; cases e
theorem KI.setF {R : Rn} {n : Nat} {ph : Str → Ph} {x : Str} {ss : List Stp} {k : Nat} {s : Stp} {T T' : Tb} {F F' : Fb} {W : Option V} (h : KI R ph) (ok : RnOk R n) (hm : (x, ss) ∈ R.works) (hs : ss[k]? = some s) (e : R.desks[s.d.toNat]? = some (T, F))
  (oth : ∀ key, key ≠ kk x k → valV F' key = valV F key) (at_ : valV F' (kk x k) = W) (hW : Wok (ph x) k W) : KI (setD R s.d.toNat (T', F')) ph ∧ q19 (setD R s.d.toNat (T', F')) s.d x k = W := by
 have hi : s.d.toNat < R.desks.length := (List.getElem?_eq_some_iff.mp e).1
 have e1 : ∀ j : Nat, (setD R s.d.toNat (T', F')).desks[j]? = if s.d.toNat = j then some (T', F') else R.desks[j]? := fun j => by
  show (R.desks.set s.d.toNat (T', F'))[j]? = _
  rw [List.getElem?_set]
  by_cases z : s.d.toNat = j
  ·rw [if_pos z, if_pos (by omega), if_pos z]
  ·rw [if_neg z, if_neg z]
 have w1 : q19 (setD R s.d.toNat (T', F')) s.d x k = W := by
  unfold q19
  rw [e1, if_pos rfl]
  exact at_
 have w2 : ∀ (d : Int) (y : Str) (l : Nat), ¬ (y = x ∧ l = k) → q19 (setD R s.d.toNat (T', F')) d y l = q19 R d y l := fun d y l hn => by
  unfold q19
  rw [e1]
  by_cases z : s.d.toNat = d.toNat
  ·rw [if_pos z, ← z, e]
   exact oth _ (qjn hn)
  ·rw [if_neg z]
 refine ⟨⟨h.tr, fun y tt hy l s' hl => ?_, h.lo, fun j T1 F1 hj key v hv => ?_⟩, w1⟩
 ·by_cases z : y = x ∧ l = k
  ·obtain ⟨rfl, rfl⟩ := z
   obtain rfl : ss = tt := q4u ok hm hy
   rw [hs] at hl
   obtain rfl := Option.some.inj hl
   rw [w1]
   exact hW
  ·rw [w2 _ _ _ z]
   exact h.wd y tt hy l s' hl
 ·rw [e1] at hj
  by_cases z : s.d.toNat = j
  ·rw [if_pos z] at hj
   cases hj
   by_cases y : key = kk x k
   ·exact ⟨x, ss, hm, k, y⟩
   ·rw [oth key y] at hv
    exact h.ks _ T F e key v hv
  ·rw [if_neg z] at hj
   exact h.ks j T1 F1 hj key v hv
theorem KI.arrive {R : Rn} {n : Nat} {ph : Str → Ph} {x : Str} {ss : List Stp} {k : Nat} {s : Stp} (h : KI R ph) (ok : RnOk R n) (hm : (x, ss) ∈ R.works) (hs : ss[k]? = some s) (u : Bool) (q : Okq (ph x) k u) :
  KI (q0n R s.d (reqM x s (if u = true then "undo" else "do") k)).2 ph ∧
   (u = false → ((q0n R s.d (reqM x s (if u = true then "undo" else "do") k)).1 = "did" ∧ q19 (q0n R s.d (reqM x s (if u = true then "undo" else "do") k)).2 s.d x k = some (.str "did")) ∨
    ((q0n R s.d (reqM x s (if u = true then "undo" else "do") k)).1 = "no" ∧ q19 (q0n R s.d (reqM x s (if u = true then "undo" else "do") k)).2 s.d x k ≠ some (.str "did") ∧ q19 (q0n R s.d (reqM x s (if u = true then "undo" else "do") k)).2 s.d x k ≠ none)) ∧
   (u = true → q19 (q0n R s.d (reqM x s (if u = true then "undo" else "do") k)).2 s.d x k = some (.str "undid")) := by
 have hd := ok.sd x ss hm s (List.mem_of_getElem? hs)
 have hi : s.d.toNat < R.desks.length := by omega
 have e : R.desks[s.d.toNat]? = some (R.desks[s.d.toNat].1, R.desks[s.d.toNat].2) := List.getElem?_eq_getElem hi
 generalize R.desks[s.d.toNat].1 = T at e
 generalize R.desks[s.d.toNat].2 = F at e
 have hw := h.wd x ss hm k s hs
 have ew : q19 R s.d x k = valV F (kk x k) := by unfold q19; rw [e]
 rw [ew] at hw
 have hFV : FV F := (ok.ok T F (List.mem_of_getElem? e)).f
 have ea : ∀ q, q0n R s.d q = ((q20 T F q).1, setD R s.d.toNat (q20 T F q).2) := fun q => by unfold q0n; rw [e]
 rw [ea]
 cases u with
 | false =>
  have es : q20 T F (reqM x s (if false = true then "undo" else "do") k) = doM T F (kk x k) s.x s.n := rfl
  rw [es]
  cases hv : valV F (kk x k) with
  | none =>
   rw [hv] at hw
   unfold doM
   rw [hv]
   dsimp only
   by_cases z : getI T s.x < s.n
   ·rw [if_pos z]
    obtain ⟨a, b⟩ := h.setF (T' := T) (F' := putK F (kk x k) (.str "no")) ok hm hs e (fun key hk => by rw [q1l, if_neg hk]) (by rw [q1l, if_pos rfl]) (hw.do_ q (.inl ⟨rfl, .inr rfl⟩))
    exact ⟨a, fun _ => .inr ⟨rfl, by rw [b]; decide +kernel, by rw [b]; simp⟩, fun z => by cases z⟩
   ·rw [if_neg z]
    obtain ⟨a, b⟩ := h.setF (T' := putK T (Sum.inr s.x : Key) (.int (getI T s.x - s.n))) (F' := putK F (kk x k) (.str "did")) ok hm hs e (fun key hk => by rw [q1l, if_neg hk]) (by rw [q1l, if_pos rfl]) (hw.do_ q (.inl ⟨rfl, .inl rfl⟩))
    exact ⟨a, fun _ => .inl ⟨rfl, b⟩, fun z => by cases z⟩
  | some v =>
   rw [hv] at hw
   unfold doM
   rw [hv]
   dsimp only
   obtain ⟨a, b⟩ := h.setF (T' := T) (F' := F) ok hm hs e (fun key hk => rfl) hv hw
   refine ⟨a, fun _ => ?_, fun z => by cases z⟩
   by_cases z : v = .str "did"
   ·rw [if_pos z]
    exact .inl ⟨rfl, by rw [b, z]⟩
   ·rw [if_neg z]
    exact .inr ⟨rfl, by rw [b]; intro y; exact z (Option.some.inj y), by rw [b]; simp⟩
 | true =>
  have es : q20 T F (reqM x s (if true = true then "undo" else "do") k) = q2y T F (kk x k) s.x s.n := rfl
  rw [es]
  unfold q2y
  dsimp only
  obtain ⟨a, b⟩ := h.setF (T' := if valV F (kk x k) = some (.str "did") then putK T (Sum.inr s.x : Key) (.int (getI T s.x + s.n)) else T) (F' := putK F (kk x k) (.str "undid")) ok hm hs e (fun key hk => by rw [q1l, if_neg hk]) (by rw [q1l, if_pos rfl]) (hw.undo q)
  exact ⟨a, (fun z => by cases z), fun _ => b⟩
structure SF (R R' : Rn) : Prop where
 w : R'.works = R.works
 t : R'.trail = R.trail
 l : R'.lost = R.lost
 f : ∀ j : Nat, R'.desks[j]?.map (·.2) = R.desks[j]?.map (·.2)
theorem q7a (R : Rn) (d : Int) (x : Str) (k : Nat) : q19 R d x k = (R.desks[d.toNat]?.map (·.2)).bind fun F => valV F (kk x k) := by
 unfold q19
 cases R.desks[d.toNat]? with
 | none => rfl
 | some p => rfl
theorem KI.same {R R' : Rn} {ph : Str → Ph} (h : KI R ph) (s : SF R R') : KI R' ph := by
 refine ⟨by rw [s.w, s.t]; exact h.tr, fun x ss hm k s' hs => ?_, by rw [s.w, s.l]; exact h.lo, fun i T F hi key v hv => ?_⟩
 ·rw [s.w] at hm
  rw [q7a, s.f, ← q7a]
  exact h.wd x ss hm k s' hs
 ·have := s.f i
  rw [hi] at this
  cases e : R.desks[i]? with
  | none => rw [e] at this; cases this
  | some p =>
   rw [e] at this
   obtain rfl : F = p.2 := Option.some.inj this
   rw [s.w]
   exact h.ks i p.1 p.2 e key v hv
theorem KI.keep {R : Rn} {ph : Str → Ph} (h : KI R ph) (p : Int × Rq) (hp : ∃ x ss, (x, ss) ∈ R.works ∧ ∃ (k : Nat) (s : Stp) (u : Bool), ss[k]? = some s ∧ p = (s.d, reqM x s (if u = true then "undo" else "do") k) ∧ Okq (ph x) k u) : KI { R with lost := R.lost ++ [p] } ph :=
 ⟨h.tr, h.wd, fun q hq => by
  rw [List.mem_append] at hq
  rcases hq with z | z
  ·exact h.lo q z
  ·simp at z; subst z; exact hp, h.ks⟩
theorem KI.wr {R R' : Rn} {ph : Str → Ph} {x : Str} {ss : List Stp} {e : En} {p' : Ph} (h : KI R ph) (uq : ∀ tt, (x, tt) ∈ R.works → ss = tt) (hm : (x, ss) ∈ R.works) (hw : R'.works = R.works) (hl : R'.lost = R.lost) (hd : R'.desks = R.desks)
  (ht : R'.trail = fun y => if y = x then R.trail x ++ [e] else R.trail y) (p1 : p'.ok ss.length) (p2 : p'.tr = (ph x).tr ++ [e]) (p3 : ∀ k v, Okq (ph x) k v → Okq p' k v) (p4 : ∀ (k : Nat) s, ss[k]? = some s → Wok p' k (q19 R s.d x k)) :
  KI R' fun y => if y = x then p' else ph y := by
 have ew : ∀ (d : Int) (y : Str) (l : Nat), q19 R' d y l = q19 R d y l := fun d y l => by unfold q19; rw [hd]
 refine ⟨fun y tt hy => ?_, fun y tt hy k s hs => ?_, fun q hq => ?_, by rw [hd, hw]; exact h.ks⟩
 ·rw [hw] at hy
  rw [ht]
  dsimp only
  by_cases z : y = x
  ·subst z
   obtain rfl : ss = tt := uq tt hy
   rw [if_pos rfl, if_pos rfl, p2, (h.tr y ss hm).2]
   exact ⟨p1, rfl⟩
  ·rw [if_neg z, if_neg z]
   exact h.tr y tt hy
 ·rw [hw] at hy
  rw [ew]
  by_cases z : y = x
  ·subst z
   obtain rfl : ss = tt := uq tt hy
   rw [if_pos rfl]
   exact p4 k s hs
  ·rw [if_neg z]
   exact h.wd y tt hy k s hs
 ·rw [hl] at hq
  obtain ⟨y, tt, hy, k, s, u, h1, h2, h3⟩ := h.lo q hq
  refine ⟨y, tt, by rw [hw]; exact hy, k, s, u, h1, h2, ?_⟩
  by_cases z : y = x
  ·subst z
   rw [if_pos rfl]
   exact p3 k u h3
  ·rw [if_neg z]
   exact h3
theorem Ph.cur {m : Nat} {p : Ph} (ok : p.ok m) {u : Bool} {i : Int} (h : p.nx m = (if u = true then .un i else .dO i)) : ∃ i' : Nat, i = (i' : Int) ∧ i' < m ∧ Okq p i' u ∧ (u = false → p = .up i') := by
 cases p with
 | up j =>
  have h : doD m j = _ := h
  unfold doD at h
  by_cases hj : (j : Int) < m
  ·rw [if_pos hj] at h
   cases u with
   | true => cases h
   | false =>
    obtain rfl : (j : Int) = i := by injection h
    exact ⟨j, rfl, by omega, ⟨rfl, Nat.le_refl _⟩, fun _ => rfl⟩
  ·rw [if_neg hj] at h
   cases u <;> cases h
 | no j r =>
  obtain ⟨ok1, ok2⟩ := ok
  have h : unD _ = _ := h
  unfold unD at h
  by_cases hj : 0 ≤ (j : Int) - 1 - r
  ·rw [if_pos hj] at h
   cases u with
   | false => cases h
   | true =>
    obtain rfl : (j : Int) - 1 - r = i := by injection h
    exact ⟨j - 1 - r, by omega, by omega, .inr ⟨rfl, by omega, by omega⟩, fun z => by cases z⟩
  ·rw [if_neg hj] at h
   cases u <;> cases h
 | un j r =>
  obtain ⟨ok1, ok2⟩ := ok
  have h : unD _ = _ := h
  unfold unD at h
  by_cases hj : 0 ≤ (j : Int) - r
  ·rw [if_pos hj] at h
   cases u with
   | false => cases h
   | true =>
    obtain rfl : (j : Int) - r = i := by injection h
    exact ⟨j - r, by omega, by omega, .inr ⟨rfl, by omega, by omega⟩, fun z => by cases z⟩
  ·rw [if_neg hj] at h
   cases u <;> cases h
theorem KI.entry {R1 : Rn} {ph : Str → Ph} {x : Str} {ss : List Stp} {s : Stp} {i : Nat} {u : Bool} {y : Str} (h : KI R1 ph) (uq : ∀ tt, (x, tt) ∈ R1.works → ss = tt) (hm : (x, ss) ∈ R1.works) (hs : ss[i]? = some s) (hx : (ph x).nx ss.length = (if u = true then .un i else .dO i))
  (hy : (u = false → (y = "did" ∧ q19 R1 s.d x i = some (.str "did")) ∨ (y = "no" ∧ q19 R1 s.d x i = some (.str "no")) ∨ y = "unsure") ∧ (u = true → y = "undid" ∧ q19 R1 s.d x i = some (.str "undid"))) : ∃ ph', KI (q1v R1 x (y, i)) ph' := by
 have st : q5p (y, (i : Int)) ((ph x).nx ss.length) = true := by
  rw [hx]
  cases u with
  | false =>
   refine decide_eq_true ⟨?_, rfl⟩
   rcases hy.1 rfl with ⟨z, _⟩ | ⟨z, _⟩ | z
   ·exact .inl z
   ·exact .inr (.inl z)
   ·exact .inr (.inr z)
  | true => exact decide_eq_true ⟨(hy.2 rfl).1, rfl⟩
 obtain ⟨p', i', u', e1, e2, e3, e4, e5, e6, e7, e8⟩ := Ph.step (h.tr x ss hm).1 st
 have ei : i' = i := by have : (i : Int) = i' := e1; omega
 subst ei
 have eu : u' = u := by
  rw [hx] at e3
  cases u <;> cases u' <;> first | rfl | cases e3
 subst eu
 refine ⟨_, h.wr (p' := p') uq hm rfl rfl rfl rfl e4 e5 e6 fun k s' hs' => e8 k _ (h.wd x ss hm k s' hs') fun ek => ?_⟩
 subst ek
 rw [hs] at hs'
 obtain rfl := Option.some.inj hs'
 exact ⟨hy.1, fun z => (hy.2 z).2⟩
theorem KI.attempt {R : Rn} {n : Nat} {ph : Str → Ph} {x luck : Str} {ss : List Stp} {s : Stp} {i : Nat} {u : Bool} (h : KI R ph) (ok : RnOk R n) (hm : (x, ss) ∈ R.works) (hs : ss[i]? = some s) (hx : (ph x).nx ss.length = (if u = true then .un i else .dO i)) :
  ∃ ph', KI (q0x R x s u i luck).2 ph' := by
 have uq : ∀ tt, (x, tt) ∈ R.works → ss = tt := fun tt ht => q4u ok hm ht
 obtain ⟨i', e1, hi, hq, hup⟩ := Ph.cur (h.tr x ss hm).1 hx
 have ei : i' = i := by omega
 subst ei
 have after : ∀ {R1 : Rn}, KI R1 ph → R1.works = R.works → ∃ ph', KI (match q0v R1 x u with
   | (some w, R2) => ((some (w, (i' : Int)) : Option En), q1v R2 x (w, (i' : Int)))
   | (none, R2) => (none, R2)).2 ph' := by
  intro R1 h1 ew
  cases u with
  | true => exact ⟨ph, h1⟩
  | false =>
   have e2 : q0v R1 x false = (if R1.bound ≤ getI R1.tries x + 1 then some ("unsure" : Str) else none, { R1 with tries := putK R1.tries (Sum.inr x : Key) (.int (getI R1.tries x + 1)) }) := rfl
   have h2 : KI { R1 with tries := putK R1.tries (Sum.inr x : Key) (.int (getI R1.tries x + 1)) } ph := h1.same ⟨rfl, rfl, rfl, fun _ => rfl⟩
   rw [e2]
   by_cases hb : R1.bound ≤ getI R1.tries x + 1
   ·rw [if_pos hb]
    exact h2.entry (by show ∀ tt, (x, tt) ∈ R1.works → _; rw [ew]; exact uq) (by show _ ∈ R1.works; rw [ew]; exact hm) hs hx ⟨fun _ => .inr (.inr rfl), fun z => by cases z⟩
   ·rw [if_neg hb]
    exact ⟨ph, h2⟩
 unfold q0x q2c
 by_cases hl : luck = "lost"
 ·rw [if_pos hl]
  exact after (h.keep _ ⟨x, ss, hm, i', s, u, hs, rfl, hq⟩) rfl
 ·rw [if_neg hl]
  obtain ⟨h1, a1, a2⟩ := h.arrive ok hm hs u hq
  have sw := (q52 R s.d (reqM x s (if u = true then "undo" else "do") i')).w
  by_cases hk : luck = "ok"
  ·rw [if_pos hk]
   dsimp only
   have w1 := h1.wd x ss (by rw [sw]; exact hm) i' s hs
   refine h1.entry (by rw [sw]; exact uq) (by rw [sw]; exact hm) hs hx ⟨fun z => ?_, fun z => ?_⟩
   ·rcases a1 z with ⟨b1, b2⟩ | ⟨b1, b2, b3⟩
    ·exact .inl ⟨b1, b2⟩
    ·rw [hup z] at w1
     rcases w1.2.1 rfl with c | c | c
     ·exact absurd c b3
     ·exact absurd c b2
     ·exact .inr (.inl ⟨b1, c⟩)
   ·refine ⟨?_, a2 z⟩
    exact (q4w ok hm (List.mem_of_getElem? hs) _).2 (by rw [z]; rfl)
  ·rw [if_neg hk]
   exact after h1 sw
theorem KI.deed {R : Rn} {n : Nat} {ph : Str → Ph} (h : KI R ph) (ok : RnOk R n) (d : Deed) : ∃ ph', KI (q1c R d).2 ph' := by
 cases d with
 | start x ss =>
  rcases q8w (R := R) (x := x) (ss := ss) with e | ⟨hn, e⟩
  ·rw [e]; exact ⟨ph, h⟩
  ·rw [e]
   have nx : ∀ tt, (x, tt) ∉ R.works := fun tt hm => q3h hn _ hm rfl
   have ne : ∀ {y tt}, (y, tt) ∈ R.works → ¬ y = x := fun hm z => nx _ (by rw [← z]; exact hm)
   have w0 : ∀ (dd : Int) (k : Nat), q19 R dd x k = none := fun dd k => by
    cases e1 : q19 R dd x k with
    | none => rfl
    | some v =>
     unfold q19 at e1
     cases e2 : R.desks[dd.toNat]? with
     | none => rw [e2] at e1; cases e1
     | some p =>
      rw [e2] at e1
      obtain ⟨y, tt, hy, l, ek⟩ := h.ks _ p.1 p.2 e2 _ v e1
      by_cases z : x = y ∧ k = l
      ·exact absurd z.1.symm (ne hy)
      ·exact absurd ek (qjn z)
   refine ⟨fun y => if y = x then .up 0 else ph y, fun y tt hy => ?_, fun y tt hy k s hs => ?_, fun p hp => ?_, fun i T F hi key v hv => ?_⟩
   ·dsimp only at hy ⊢
    rw [List.mem_append] at hy
    by_cases z : y = x
    ·rw [if_pos z, if_pos z]; exact ⟨Nat.zero_le _, rfl⟩
    ·rw [if_neg z, if_neg z]
     rcases hy with hy | hy
     ·exact h.tr y tt hy
     ·simp at hy; exact absurd hy.1 z
   ·dsimp only at hy ⊢
    rw [List.mem_append] at hy
    by_cases z : y = x
    ·rw [if_pos z]
     subst z
     have : q19 { R with works := R.works ++ [(y, ss)], trail := fun z => if z = y then [] else R.trail z } s.d y k = none := w0 s.d k
     rw [this]
     exact ⟨fun z => by omega, fun _ => .inl rfl, fun _ => rfl⟩
    ·rw [if_neg z]
     rcases hy with hy | hy
     ·exact h.wd y tt hy k s hs
     ·simp at hy; exact absurd hy.1 z
   ·obtain ⟨y, tt, hy, k, s, u, h1, h2, h3⟩ := h.lo p hp
    refine ⟨y, tt, List.mem_append_left _ hy, k, s, u, h1, h2, ?_⟩
    rw [if_neg (ne hy)]
    exact h3
   ·obtain ⟨y, tt, hy, k, ek⟩ := h.ks i T F hi key v hv
    exact ⟨y, tt, List.mem_append_left _ hy, k, ek⟩
 | go x luck =>
  show ∃ ph', KI (goM R x luck).2 ph'
  unfold goM
  by_cases up : R.up = false
  ·rw [if_pos up]; exact ⟨ph, h⟩
  ·rw [if_neg up]
   cases hw : R.wk x with
   | none => exact ⟨ph, h⟩
   | some ss =>
    dsimp only
    have hm : (x, ss) ∈ R.works := q2k hw
    have et := (h.tr x ss hm).2
    have en := Ph.nx_of ss.length (ph x)
    rw [← et] at en
    cases e : nxOf ss.length (R.trail x) with
    | dn => exact ⟨ph, h⟩
    | ud => exact ⟨ph, h⟩
    | dO i =>
     dsimp only
     cases hs : ss[i.toNat]? with
     | none => exact ⟨ph, h⟩
     | some s =>
      obtain ⟨i', rfl, _⟩ := Ph.cur (h.tr x ss hm).1 (u := false) (i := i) (by rw [← en, e]; rfl)
      rw [Int.toNat_natCast] at hs
      exact h.attempt (u := false) ok hm hs (by rw [← en, e]; rfl)
    | un i =>
     dsimp only
     cases hs : ss[i.toNat]? with
     | none => exact ⟨ph, h⟩
     | some s =>
      obtain ⟨i', rfl, _⟩ := Ph.cur (h.tr x ss hm).1 (u := true) (i := i) (by rw [← en, e]; rfl)
      rw [Int.toNat_natCast] at hs
      exact h.attempt (u := true) ok hm hs (by rw [← en, e]; rfl)
 | late i =>
  show ∃ ph', KI (q2w R i).2 ph'
  unfold q2w
  split
  ·exact ⟨ph, h⟩
  ·split
   ·rename_i d q e
    obtain ⟨y, tt, hy, k, s, u, h1, h2, h3⟩ := h.lo _ (List.mem_of_getElem? e)
    cases h2
    exact ⟨ph, (h.arrive ok hy h1 u h3).1⟩
   ·exact ⟨ph, h⟩
 | fill d x m =>
  show ∃ ph', KI (q2t R d x m).2 ph'
  unfold q2t
  split
  ·split
   ·rename_i T F e
    refine ⟨ph, h.same ⟨rfl, rfl, rfl, fun j => ?_⟩⟩
    show (R.desks.set d.toNat _)[j]?.map (·.2) = _
    rw [List.getElem?_set]
    by_cases z : d.toNat = j
    ·subst z
     rw [if_pos rfl, e, if_pos (List.getElem?_eq_some_iff.mp e).1]
     rfl
    ·rw [if_neg z]
   ·exact ⟨ph, h⟩
  ·exact ⟨ph, h⟩
 | stop =>
  show ∃ ph', KI (if R.up = true then (An.bl true, ({ R with up := false, tries := [] } : Rn)) else (.bl false, R)).2 ph'
  split
  ·exact ⟨ph, h.same ⟨rfl, rfl, rfl, fun _ => rfl⟩⟩
  ·exact ⟨ph, h⟩
 | wake =>
  show ∃ ph', KI (if R.up = true then (An.bl false, R) else (.bl true, { R with up := true })).2 ph'
  split
  ·exact ⟨ph, h⟩
  ·exact ⟨ph, h.same ⟨rfl, rfl, rfl, fun _ => rfl⟩⟩
theorem KI.run {R : Rn} {n : Nat} {ph : Str → Ph} (h : KI R ph) (ok : RnOk R n) (ds : List Deed) (hs : ∀ d ∈ ds, ∀ x ss, d = .start x ss → ss.length ≤ 1000) : ∃ ph', KI (runD R ds).2 ph' := by
 suffices g : ∀ (k : Nat) (es : List Deed), es.length = k → (∀ d ∈ es, ∀ x ss, d = .start x ss → ss.length ≤ 1000) → ∃ ph', KI (runD R es).2 ph' from g _ ds rfl hs
 intro k
 induction k with
 | zero => intro es he _; rw [List.length_eq_zero_iff.mp he]; exact ⟨ph, h⟩
 | succ k ih =>
  intro es he hz
  obtain ⟨es', x, rfl⟩ := q3o (l := es) (by intro z; rw [z] at he; cases he)
  have hz' : ∀ d ∈ es', ∀ x ss, d = .start x ss → ss.length ≤ 1000 := fun d hd => hz d (List.mem_append_left _ hd)
  rw [q26]
  obtain ⟨ph', h'⟩ := ih es' (by simpa using he) hz'
  exact h'.deed (ok.run es' hz') x
def qe3 (ws : List (Str × List Stp)) : List Key → Option Stp
 | [Sum.inr x, Sum.inl n] => (wkF ws x).bind fun ss => ss[n.toNat]?
 | _ => none
def tkv (ws : List (Str × List Stp)) (x : Str) (kv : List Key × V) : Int := if kv.2 = .str "did" then (match qe3 ws kv.1 with
  | some s => if s.x = x then s.n else 0
  | none => 0) else 0
def q2m (ws : List (Str × List Stp)) (F : Fb) (x : Str) : Int := (F.map (tkv ws x)).sum
theorem q42 (ws : List (Str × List Stp)) (F : Fb) (kv : List Key × V) (x : Str) : q2m ws (F ++ [kv]) x = q2m ws F x + tkv ws x kv := by
 unfold q2m
 rw [List.map_append, List.sum_append]
 simp
theorem q36 (ws : List (Str × List Stp)) (F : Fb) (kv : List Key × V) (x : Str) : q2m ws (kv :: F) x = tkv ws x kv + q2m ws F x := by
 unfold q2m
 rw [List.map_cons, List.sum_cons]
theorem qc0 {κ : Type} [DecidableEq κ] {F : List (κ × V)} {k : κ} : (F.any fun kv => decide (kv.1 = k)) = (valV F k).isSome := by
 unfold valV
 rw [Option.isSome_map]
 induction F with
 | nil => rfl
 | cons a r ih =>
  rw [List.any_cons, List.find?_cons, ih]
  cases decide (a.1 = k) <;> simp
theorem q50 {κ : Type} [DecidableEq κ] {F : List (κ × V)} {k : κ} (v : V) (h : valV F k = none) : putK F k v = F ++ [(k, v)] := by
 unfold putK
 rw [qc0, h]
 rfl
theorem q4y {κ : Type} [DecidableEq κ] {F : List (κ × V)} {k : κ} {w : V} (v : V) (h : valV F k = some w) : putK F k v = F.map fun kv => if kv.1 = k then (kv.1, v) else kv := by
 unfold putK
 rw [qc0, h]
 rfl
theorem qdm {κ : Type} [DecidableEq κ] (F : List (κ × V)) (k : κ) (v : V) : (F.map fun kv => if kv.1 = k then (kv.1, v) else kv).map (·.1) = F.map (·.1) := by
 rw [List.map_map]
 refine List.map_congr_left fun kv _ => ?_
 show (if kv.1 = k then (kv.1, v) else kv).1 = kv.1
 split <;> rfl
theorem qje {κ : Type} [DecidableEq κ] {F : List (κ × V)} {k : κ} (v : V) (h : k ∉ F.map (·.1)) : (F.map fun kv => if kv.1 = k then (kv.1, v) else kv) = F := by
 refine (List.map_congr_left fun kv hv => ?_).trans (List.map_id _)
 rw [if_neg fun z => h (List.mem_map.mpr ⟨kv, hv, z⟩)]
 rfl
theorem q7m (ws : List (Str × List Stp)) (x : Str) : ∀ {F : Fb} {k : List Key} {w : V} (v : V), (F.map (·.1)).Nodup → valV F k = some w → q2m ws (F.map fun kv => if kv.1 = k then (kv.1, v) else kv) x + tkv ws x (k, w) = q2m ws F x + tkv ws x (k, v)
 | [], k, w, v, _, h => by cases h
 | (k', w') :: r, k, w, v, nd, h => by
  rw [List.map_cons, List.nodup_cons] at nd
  by_cases e : k' = k
  ·subst e
   have e2 : w' = w := by
    unfold valV at h
    rw [List.find?_cons, decide_eq_true rfl] at h
    exact Option.some.inj h
   subst e2
   rw [List.map_cons, qje v nd.1, if_pos rfl, q36, q36]
   dsimp only
   omega
  ·have h' : valV r k = some w := by
    unfold valV at h ⊢
    rw [List.find?_cons, decide_eq_false e] at h
    exact h
   have ih := q7m ws x v nd.2 h'
   rw [List.map_cons, if_neg e]
   rw [q36, q36]
   omega
theorem q4q (T : Tb) (x y : Str) (i : Int) : getI (putK T (Sum.inr x : Key) (.int i)) y = if y = x then i else getI T y := by
 unfold getI
 rw [q1l]
 by_cases e : y = x
 ·rw [if_pos e, if_pos (by rw [e])]
 ·rw [if_neg e, if_neg (fun z => e (by injection z))]
theorem qin {rows : List (Str × Int)} {x : Str} {v : V} (h : valV (kvOf rows) (Sum.inr x : Key) = some v) : ∃ i, (x, i) ∈ rows ∧ v = .int i := by
 unfold valV kvOf at h
 rw [List.find?_map] at h
 cases e : rows.find? ((fun kv : Key × V => decide (kv.1 = (Sum.inr x : Key))) ∘ fun q : Str × Int => ((Sum.inr q.1 : Key), V.int q.2)) with
 | none => rw [e] at h; cases h
 | some q =>
  rw [e] at h
  cases h
  have h1 := List.find?_some e
  have h2 := List.mem_of_find?_eq_some e
  have e3 : q.1 = x := by
   have := of_decide_eq_true h1
   injection this
  obtain ⟨y, i⟩ := q
  dsimp only at e3
  subst e3
  exact ⟨i, h2, rfl⟩
theorem TbW.nn {c : Int} {T : Tb} (h : TbW c T) (x : Str) : 0 ≤ getI T x := by
 obtain ⟨rows, rfl, hr, _⟩ := h
 unfold getI
 cases e : valV (kvOf rows) (Sum.inr x : Key) with
 | none => exact Int.le_refl 0
 | some v =>
  obtain ⟨i, hi, rfl⟩ := qin e
  exact (hr _ hi).2
structure CI (c : Int) (L : List Tb) (R : Rn) : Prop where
 tb : ∀ (i : Nat) T F, R.desks[i]? = some (T, F) → TbW c T
 ks : ∀ (i : Nat) T F, R.desks[i]? = some (T, F) → ∀ kv ∈ F, ∃ x ss, (x, ss) ∈ R.works ∧ ∃ (j : Nat) (s : Stp) (y : Str), ss[j]? = some s ∧ s.d = i ∧ kv = (kk x j, .str y) ∧ (y = "did" ∨ y = "no" ∨ y = "undid")
 nk : ∀ (i : Nat) T F, R.desks[i]? = some (T, F) → (F.map (·.1)).Nodup
 ls : ∀ p ∈ R.lost, ∃ x ss, (x, ss) ∈ R.works ∧ ∃ (j : Nat) (s : Stp) (u : Bool), ss[j]? = some s ∧ p = (s.d, reqM x s (if u = true then "undo" else "do") j)
 cs : ∀ (i : Nat) T F l, R.desks[i]? = some (T, F) → L[i]? = some l → ∀ x, getI T x + q2m R.works F x = getI l x
 sw : ∀ x ss, (x, ss) ∈ R.works → ∀ s ∈ ss, s.x ∈ q1f c ∧ 0 ≤ s.n
 len : L.length = R.desks.length
theorem CI.same {c : Int} {L : List Tb} {R R' : Rn} (h : CI c L R) (hd : R'.desks = R.desks) (hw : R'.works = R.works) (hl : R'.lost = R.lost) : CI c L R' := by
 refine ⟨?_, ?_, ?_, ?_, ?_, ?_, ?_⟩
 ·rw [hd]; exact h.tb
 ·rw [hd, hw]; exact h.ks
 ·rw [hd]; exact h.nk
 ·rw [hl, hw]; exact h.ls
 ·rw [hd, hw]; exact h.cs
 ·rw [hw]; exact h.sw
 ·rw [hd]; exact h.len
theorem CI.set {c : Int} {L L' : List Tb} {R : Rn} {i : Nat} {T T' : Tb} {F F' : Fb} (h : CI c L R) (e : R.desks[i]? = some (T, F)) (hL : L'.length = L.length) (oth : ∀ j : Nat, j ≠ i → L'[j]? = L[j]?) (tb : TbW c T') (nk : (F'.map (·.1)).Nodup)
  (ks : ∀ kv ∈ F', kv ∈ F ∨ ∃ x ss, (x, ss) ∈ R.works ∧ ∃ (j : Nat) (s : Stp) (y : Str), ss[j]? = some s ∧ s.d = i ∧ kv = (kk x j, .str y) ∧ (y = "did" ∨ y = "no" ∨ y = "undid"))
  (cs : ∀ l, L'[i]? = some l → ∀ x, getI T' x + q2m R.works F' x = getI l x) : CI c L' (setD R i (T', F')) := by
 have hi : i < R.desks.length := (List.getElem?_eq_some_iff.mp e).1
 have e1 : ∀ (j : Nat) T2 F2, (setD R i (T', F')).desks[j]? = some (T2, F2) → (j = i ∧ T2 = T' ∧ F2 = F') ∨ (j ≠ i ∧ R.desks[j]? = some (T2, F2)) := fun j T2 F2 z => by
  have z : (R.desks.set i (T', F'))[j]? = some (T2, F2) := z
  rw [List.getElem?_set] at z
  by_cases e : i = j
  ·rw [if_pos e, if_pos hi] at z
   cases z
   exact .inl ⟨e.symm, rfl, rfl⟩
  ·rw [if_neg e] at z
   exact .inr ⟨fun y => e y.symm, z⟩
 refine ⟨fun j T2 F2 z => ?_, fun j T2 F2 z kv hv => ?_, fun j T2 F2 z => ?_, h.ls, fun j T2 F2 l z zl x => ?_, h.sw, ?_⟩
 ·rcases e1 j T2 F2 z with ⟨rfl, rfl, rfl⟩ | ⟨_, z'⟩
  ·exact tb
  ·exact h.tb j T2 F2 z'
 ·rcases e1 j T2 F2 z with ⟨rfl, rfl, rfl⟩ | ⟨_, z'⟩
  ·rcases ks kv hv with q | q
   ·exact h.ks j T F e kv q
   ·exact q
  ·exact h.ks j T2 F2 z' kv hv
 ·rcases e1 j T2 F2 z with ⟨rfl, rfl, rfl⟩ | ⟨_, z'⟩
  ·exact nk
  ·exact h.nk j T2 F2 z'
 ·rcases e1 j T2 F2 z with ⟨rfl, rfl, rfl⟩ | ⟨nj, z'⟩
  ·exact cs l zl x
  ·rw [oth j nj] at zl
   exact h.cs j T2 F2 l z' zl x
 ·show _ = (R.desks.set i (T', F')).length
  rw [List.length_set, hL]
  exact h.len
theorem qdh {R : Rn} {n : Nat} {x : Str} {ss : List Stp} {j : Nat} {s : Stp} (ok : RnOk R n) (hm : (x, ss) ∈ R.works) (hs : ss[j]? = some s) : qe3 R.works (kk x j) = some s := by
 have := qbp ok hm
 unfold Rn.wk at this
 show (wkF R.works x).bind (fun ss => ss[((j : Nat) : Int).toNat]?) = some s
 rw [this, Int.toNat_natCast]
 exact hs
theorem qgi {κ : Type} [DecidableEq κ] {F : List (κ × V)} {k : κ} {v : V} {kv : κ × V} (h : kv ∈ F.map fun kv => if kv.1 = k then (kv.1, v) else kv) : kv ∈ F ∨ kv = (k, v) := by
 obtain ⟨q, h1, rfl⟩ := List.mem_map.mp h
 by_cases e : q.1 = k
 ·rw [if_pos e, e]; exact .inr rfl
 ·rw [if_neg e]; exact .inl h1
theorem CI.arrive {c : Int} {L : List Tb} {R : Rn} {n : Nat} {x : Str} {ss : List Stp} {j : Nat} {s : Stp} (h : CI c L R) (ok : RnOk R n) (hm : (x, ss) ∈ R.works) (hs : ss[j]? = some s) (u : Bool) : CI c L (q0n R s.d (reqM x s (if u = true then "undo" else "do") j)).2 := by
 have hd := ok.sd x ss hm s (List.mem_of_getElem? hs)
 have hi : s.d.toNat < R.desks.length := by omega
 have e : R.desks[s.d.toNat]? = some (R.desks[s.d.toNat].1, R.desks[s.d.toNat].2) := List.getElem?_eq_getElem hi
 generalize R.desks[s.d.toNat].1 = T at e
 generalize R.desks[s.d.toNat].2 = F at e
 have ea : ∀ q, q0n R s.d q = ((q20 T F q).1, setD R s.d.toNat (q20 T F q).2) := fun q => by unfold q0n; rw [e]
 rw [ea]
 have hst := qdh ok hm hs
 obtain ⟨hx, hn⟩ := h.sw x ss hm s (List.mem_of_getElem? hs)
 have W := h.tb _ T F e
 have nk := h.nk _ T F e
 have hcs := h.cs s.d.toNat T F
 have hdi : s.d = ((s.d.toNat : Nat) : Int) := by omega
 have tv : ∀ (y : Str) (z : Str), tkv R.works z (kk x j, .str y) = if y = "did" then (if s.x = z then s.n else 0) else 0 := fun y z => by
  unfold tkv
  dsimp only
  rw [hst]
  by_cases q : y = "did"
  ·rw [if_pos q, if_pos (by rw [q])]
  ·rw [if_neg q, if_neg (fun w => q (by injection w))]
 have nsub : ¬ (("no" : Str) = "did") := by decide +kernel
 have usub : ¬ (("undid" : Str) = "did") := by decide +kernel
 have newkey : ∀ (y : Str), (y = "did" ∨ y = "no" ∨ y = "undid") → ∀ kv, kv = (kk x j, V.str y) → ∃ x ss, (x, ss) ∈ R.works ∧ ∃ (j : Nat) (s' : Stp) (y : Str), ss[j]? = some s' ∧ s'.d = s.d.toNat ∧ kv = (kk x j, .str y) ∧ (y = "did" ∨ y = "no" ∨ y = "undid") := fun y hy kv q => ⟨x, ss, hm, j, s, y, hs, hdi, q, hy⟩
 cases u with
 | false =>
  rw [show q20 T F (reqM x s (if false = true then "undo" else "do") j) = doM T F (kk x j) s.x s.n from rfl]
  cases hv : valV F (kk x j) with
  | none =>
   have nk' : ∀ y : Str, ((putK F (kk x j) (.str y)).map (·.1)).Nodup := fun y => qcw _ nk hv
   have ks' : ∀ y : Str, (y = "did" ∨ y = "no" ∨ y = "undid") → ∀ kv ∈ putK F (kk x j) (.str y), kv ∈ F ∨ ∃ x ss, (x, ss) ∈ R.works ∧ ∃ (j : Nat) (s' : Stp) (y : Str), ss[j]? = some s' ∧ s'.d = s.d.toNat ∧ kv = (kk x j, .str y) ∧ (y = "did" ∨ y = "no" ∨ y = "undid") := fun y hy kv hkv => by
    rw [q50 _ hv, List.mem_append] at hkv
    rcases hkv with q | q
    ·exact .inl q
    ·simp at q
     exact .inr (newkey y hy kv q)
   unfold doM
   rw [hv]
   dsimp only
   by_cases z : getI T s.x < s.n
   ·rw [if_pos z]
    refine h.set e rfl (fun _ _ => rfl) W (nk' _) (ks' _ (.inr (.inl rfl))) fun l hl y => ?_
    rw [q50 _ hv, q42, tv, if_neg nsub, Int.add_zero]
    exact hcs l e hl y
   ·rw [if_neg z]
    refine h.set e rfl (fun _ _ => rfl) (W.put hx (by omega)) (nk' _) (ks' _ (.inl rfl)) fun l hl y => ?_
    rw [q50 _ hv, q42, tv, if_pos rfl, q4q, ← hcs l e hl y]
    by_cases q : y = s.x
    ·rw [if_pos q, if_pos q.symm, q]; omega
    ·rw [if_neg q, if_neg (fun w => q w.symm)]; omega
  | some v =>
   unfold doM
   rw [hv]
   dsimp only
   exact h.set e rfl (fun _ _ => rfl) W nk (fun kv hkv => .inl hkv) fun l hl y => hcs l e hl y
 | true =>
  rw [show q20 T F (reqM x s (if true = true then "undo" else "do") j) = q2y T F (kk x j) s.x s.n from rfl]
  unfold q2y
  dsimp only
  cases hv : valV F (kk x j) with
  | none =>
   rw [if_neg (by simp)]
   refine h.set e rfl (fun _ _ => rfl) W (qcw _ nk hv) (fun kv hkv => ?_) fun l hl y => ?_
   ·rw [q50 _ hv, List.mem_append] at hkv
    rcases hkv with q | q
    ·exact .inl q
    ·simp at q
     exact .inr (newkey _ (.inr (.inr rfl)) kv q)
   ·rw [q50 _ hv, q42, tv, if_neg usub, Int.add_zero]
    exact hcs l e hl y
  | some v =>
   obtain ⟨y0, rfl, hy0⟩ : ∃ y0 : Str, v = .str y0 ∧ (y0 = "did" ∨ y0 = "no" ∨ y0 = "undid") := by
    rcases (ok.ok T F (List.mem_of_getElem? e)).f _ _ hv with q | q | q
    ·exact ⟨_, q, .inl rfl⟩
    ·exact ⟨_, q, .inr (.inl rfl)⟩
    ·exact ⟨_, q, .inr (.inr rfl)⟩
   have told := fun y => q7m R.works y (.str "undid") nk hv
   have nk2 : ((putK F (kk x j) (.str "undid")).map (·.1)).Nodup := by rw [q4y _ hv, qdm]; exact nk
   have ks2 : ∀ kv ∈ putK F (kk x j) (.str "undid"), kv ∈ F ∨ ∃ x ss, (x, ss) ∈ R.works ∧ ∃ (j : Nat) (s' : Stp) (y : Str), ss[j]? = some s' ∧ s'.d = s.d.toNat ∧ kv = (kk x j, .str y) ∧ (y = "did" ∨ y = "no" ∨ y = "undid") := fun kv hkv => by
    rw [q4y _ hv] at hkv
    rcases qgi hkv with q | q
    ·exact .inl q
    ·exact .inr (newkey _ (.inr (.inr rfl)) kv q)
   by_cases q : y0 = "did"
   ·subst q
    rw [if_pos rfl]
    have g0 := W.nn s.x
    refine h.set e rfl (fun _ _ => rfl) (W.put hx (by omega)) nk2 ks2 fun l hl y => ?_
    have t1 := told y
    rw [tv, tv, if_pos rfl, if_neg usub] at t1
    rw [q4y _ hv, q4q, ← hcs l e hl y]
    by_cases q : y = s.x
    ·rw [if_pos q.symm] at t1; rw [if_pos q]; rw [q] at t1 ⊢; omega
    ·rw [if_neg (fun w => q w.symm)] at t1; rw [if_neg q]; omega
   ·rw [if_neg (fun w => q (by injection w with w; injection w))]
    refine h.set e rfl (fun _ _ => rfl) W nk2 ks2 fun l hl y => ?_
    have t1 := told y
    rw [tv, tv, if_neg q, if_neg usub] at t1
    rw [q4y _ hv, ← hcs l e hl y]
    omega
theorem CI.send {c : Int} {L : List Tb} {R : Rn} {n : Nat} {x luck : Str} {ss : List Stp} {j : Nat} {s : Stp} (h : CI c L R) (ok : RnOk R n) (hm : (x, ss) ∈ R.works) (hs : ss[j]? = some s) (u : Bool) : CI c L (q2c R s.d (reqM x s (if u = true then "undo" else "do") j) luck).2 := by
 unfold q2c
 split
 ·refine ⟨h.tb, h.ks, h.nk, fun p hp => ?_, h.cs, h.sw, h.len⟩
  have hp : p ∈ R.lost ++ [(s.d, reqM x s (if u = true then "undo" else "do") j)] := hp
  rw [List.mem_append] at hp
  rcases hp with z | z
  ·exact h.ls p z
  ·simp only [List.mem_singleton] at z
   exact ⟨x, ss, hm, j, s, u, hs, z⟩
 ·exact h.arrive ok hm hs u
theorem CI.attempt {c : Int} {L : List Tb} {R : Rn} {n : Nat} {x luck : Str} {ss : List Stp} {j : Nat} {s : Stp} (h : CI c L R) (ok : RnOk R n) (hm : (x, ss) ∈ R.works) (hs : ss[j]? = some s) (u : Bool) : CI c L (q0x R x s u j luck).2 := by
 have h1 := h.send (luck := luck) ok hm hs u
 unfold q0x
 split
 ·rename_i w R1 e
  rw [e] at h1
  exact h1.same rfl rfl rfl
 ·rename_i R1 e
  rw [e] at h1
  have h2 : CI c L (q0v R1 x u).2 := by
   unfold q0v
   split
   ·exact h1
   ·exact h1.same rfl rfl rfl
  split
  ·rename_i w R2 e2
   rw [e2] at h2
   exact h2.same rfl rfl rfl
  ·rename_i R2 e2
   rw [e2] at h2
   exact h2
def qgg (L : List Tb) : Deed → List Tb
 | .fill d x n => if 0 ≤ d ∧ d < L.length then L.set d.toNat (putK ((L[d.toNat]?).getD []) (Sum.inr x : Key) (.int (getI ((L[d.toNat]?).getD []) x + n))) else L
 | _ => L
theorem qh0 {ws : List (Str × List Stp)} {z x : Str} {ss tt : List Stp} (h : wkF ws z = some tt) : wkF (ws ++ [(x, ss)]) z = some tt := by
 unfold wkF at h ⊢
 rw [List.find?_append]
 cases e : ws.find? fun w => decide (w.1 = z) with
 | none => rw [e] at h; cases h
 | some w => rw [e] at h; exact h
theorem CI.deed {c : Int} {L : List Tb} {R : Rn} {n : Nat} (h : CI c L R) (ok : RnOk R n) (d : Deed) (hd : q2r c d) : CI c (qgg L d) (q1c R d).2 := by
 cases d with
 | start x ss =>
  rcases q8w (R := R) (x := x) (ss := ss) with e | ⟨hw, e⟩
  ·rw [e]; exact h
  ·rw [e]
   have up : ∀ z tt, (z, tt) ∈ R.works → (z, tt) ∈ R.works ++ [(x, ss)] := fun z tt hz => List.mem_append_left _ hz
   refine ⟨h.tb, fun i T F z kv hv => ?_, h.nk, fun p hp => ?_, fun i T F l z zl y => ?_, fun z tt hz s hs => ?_, h.len⟩
   ·obtain ⟨z', tt, h1, h2⟩ := h.ks i T F z kv hv
    exact ⟨z', tt, up _ _ h1, h2⟩
   ·obtain ⟨z', tt, h1, h2⟩ := h.ls p hp
    exact ⟨z', tt, up _ _ h1, h2⟩
   ·have et : q2m (R.works ++ [(x, ss)]) F y = q2m R.works F y := by
     unfold q2m
     refine congrArg List.sum (List.map_congr_left fun kv hv => ?_)
     obtain ⟨z', tt, h1, j, s, y', hj, _, rfl, _⟩ := h.ks i T F z kv hv
     have hk := qbp ok h1
     unfold Rn.wk at hk
     have q : qe3 (R.works ++ [(x, ss)]) (kk z' j) = qe3 R.works (kk z' j) := by
      show (wkF (R.works ++ [(x, ss)]) z').bind _ = (wkF R.works z').bind _
      rw [qh0 hk, hk]
     unfold tkv
     dsimp only
     rw [q]
    show getI T y + q2m (R.works ++ [(x, ss)]) F y = getI l y
    rw [et]
    exact h.cs i T F l z zl y
   ·have hz : (z, tt) ∈ R.works ++ [(x, ss)] := hz
    rw [List.mem_append] at hz
    rcases hz with q | q
    ·exact h.sw z tt q s hs
    ·simp at q
     obtain ⟨rfl, rfl⟩ := q
     exact hd.2.2.2 s hs
 | go x luck =>
  show CI c L (goM R x luck).2
  unfold goM
  split
  ·exact h
  ·split
   ·exact h
   ·rename_i ss hw
    have hm : (x, ss) ∈ R.works := q2k hw
    split
    ·rename_i i e
     have hi := ok.next hm (.inl e)
     split
     ·rename_i s hs
      have := h.attempt (luck := luck) ok hm hs false
      rw [show ((i.toNat : Nat) : Int) = i by omega] at this
      exact this
     ·exact h
    ·rename_i i e
     have hi := ok.next hm (.inr e)
     split
     ·rename_i s hs
      have := h.attempt (luck := luck) ok hm hs true
      rw [show ((i.toNat : Nat) : Int) = i by omega] at this
      exact this
     ·exact h
    ·exact h
 | late i =>
  show CI c L (q2w R i).2
  unfold q2w
  split
  ·exact h
  ·split
   ·rename_i d q e
    obtain ⟨x, ss, hm, j, s, u, hs, ep⟩ := h.ls _ (List.mem_of_getElem? e)
    cases ep
    exact h.arrive ok hm hs u
   ·exact h
 | fill d x m =>
  obtain ⟨hx, hm⟩ := hd
  show CI c (if 0 ≤ d ∧ d < L.length then _ else L) (q2t R d x m).2
  have hl := h.len
  unfold q2t inD
  by_cases z : 0 ≤ d ∧ d < L.length
  ·rw [if_pos z, decide_eq_true z.1, decide_eq_true (show d < R.desks.length by omega), Bool.true_and, if_pos rfl]
   have hi : d.toNat < R.desks.length := by omega
   have hiL : d.toNat < L.length := by omega
   have e : R.desks[d.toNat]? = some (R.desks[d.toNat].1, R.desks[d.toNat].2) := List.getElem?_eq_getElem hi
   have eL : L[d.toNat]? = some L[d.toNat] := List.getElem?_eq_getElem hiL
   generalize R.desks[d.toNat].1 = T at e
   generalize R.desks[d.toNat].2 = F at e
   rw [e, eL]
   dsimp only
   have g0 := (h.tb _ T F e).nn x
   refine h.set e List.length_set (fun j hj => List.getElem?_set_ne (fun w => hj w.symm)) ((h.tb _ T F e).put hx (by omega)) (h.nk _ T F e) (fun kv hv => .inl hv) fun l hl' y => ?_
   rw [List.getElem?_set_self hiL] at hl'
   cases hl'
   rw [q4q]
   show _ = getI (putK L[d.toNat] (Sum.inr x : Key) (.int (getI L[d.toNat] x + m))) y
   rw [q4q]
   have h1 := h.cs _ T F _ e eL y
   have h2 := h.cs _ T F _ e eL x
   by_cases q : y = x
   ·rw [if_pos q, if_pos q]; rw [q] at h1 ⊢; omega
   ·rw [if_neg q, if_neg q]; exact h1
  ·rw [if_neg z, if_neg (by simp only [Bool.and_eq_true, decide_eq_true_eq]; omega)]
   exact h
 | stop =>
  show CI c L (if R.up = true then (An.bl true, ({ R with up := false, tries := [] } : Rn)) else (.bl false, R)).2
  split
  ·exact h.same rfl rfl rfl
  ·exact h
 | wake =>
  show CI c L (if R.up = true then (An.bl false, R) else (.bl true, { R with up := true })).2
  split
  ·exact h
  ·exact h.same rfl rfl rfl
def q7b (L : List Tb) (ds : List Deed) : List Tb := ds.foldl qgg L
theorem qaw (L : List Tb) (ds : List Deed) (d : Deed) : q7b L (ds ++ [d]) = qgg (q7b L ds) d := by unfold q7b; rw [List.foldl_append]; rfl
theorem CI.new {c : Int} {Ts : List Tb} (b : Int) (h : ∀ T ∈ Ts, TbW c T) : CI c Ts (newR Ts b) := by
 have e1 : ∀ (i : Nat) T F, (newR Ts b).desks[i]? = some (T, F) → Ts[i]? = some T ∧ F = [] := fun i T F z => by
  simp only [newR, List.getElem?_map] at z
  cases e : Ts[i]? with
  | none => rw [e] at z; cases z
  | some T' => rw [e] at z; cases z; exact ⟨rfl, rfl⟩
 refine ⟨fun i T F z => h T (List.mem_of_getElem? (e1 i T F z).1), fun i T F z kv hv => ?_, fun i T F z => ?_, fun p hp => by simp [newR] at hp, fun i T F l z zl x => ?_, fun x ss hm => by simp [newR] at hm, by simp [newR]⟩
 ·rw [(e1 i T F z).2] at hv; cases hv
 ·rw [(e1 i T F z).2]; exact List.nodup_nil
 ·obtain ⟨q1, rfl⟩ := e1 i T F z
  rw [q1] at zl
  cases zl
  exact Int.add_zero _
theorem CI.run {c : Int} {L : List Tb} {R : Rn} {n : Nat} (h : CI c L R) (ok : RnOk R n) : ∀ (ds : List Deed), (∀ d ∈ ds, q2r c d) → CI c (q7b L ds) (runD R ds).2 := by
 suffices g : ∀ (k : Nat) (es : List Deed), es.length = k → (∀ d ∈ es, q2r c d) → CI c (q7b L es) (runD R es).2 from fun ds => g _ ds rfl
 intro k
 induction k with
 | zero => intro es he _; rw [List.length_eq_zero_iff.mp he]; exact h
 | succ k ih =>
  intro es he hd
  obtain ⟨es', x, rfl⟩ := q3o (l := es) (by intro z; rw [z] at he; cases he)
  rw [q26, qaw]
  have lens : ∀ d ∈ es', ∀ x ss, d = .start x ss → ss.length ≤ 1000 := fun d hd' x ss e => by
   have := hd d (List.mem_append_left _ hd')
   rw [e] at this
   have := this.2.1
   omega
  exact (ih es' (by simpa using he) fun d hd' => hd d (List.mem_append_left _ hd')).deed (ok.run es' lens) x (hd x (by simp))
theorem qiq {c : Int} {rows : List (Str × Int)} (h : ∀ q ∈ rows, q.1 ∈ q1f c) (nd : (rows.map (·.1)).Nodup) : rows.length ≤ 6 := by
 have := q6m (ys := q1f c) nd fun x hx => by
  obtain ⟨q, hq, rfl⟩ := List.mem_map.mp hx
  exact h q hq
 rw [List.length_map] at this
 unfold q1f at this
 rw [List.length_map, List.length_range] at this
 exact this
theorem q9j {c : Int} {p : Int → Prop} : ∀ {Ds : List Tb}, (∀ T ∈ Ds, TbG c p T) → ∃ rowss : List (List (Str × Int)), Ds = rowss.map kvOf ∧ ∀ rows ∈ rowss, (∀ q ∈ rows, q.1 ∈ q1f c ∧ p q.2) ∧ (rows.map (·.1)).Nodup ∧ rows.length < 64
 | [], _ => ⟨[], rfl, by simp⟩
 | T :: Ds, h => by
  obtain ⟨rows, e, hr, nd⟩ := h T (List.Mem.head _)
  obtain ⟨rs, e2, h2⟩ := q9j (Ds := Ds) fun T' hT => h T' (List.Mem.tail _ hT)
  have l6 := qiq (fun q hq => (hr q hq).1) nd
  refine ⟨rows :: rs, by rw [e, e2]; rfl, fun r hr' => ?_⟩
  rcases List.mem_cons.mp hr' with z | z
  ·rw [z]; exact ⟨hr, nd, by omega⟩
  ·exact h2 r z
theorem qat {p : Ph} {m k : Nat} {u : Bool} {W : Option V} (ok : p.ok m) (hk : k < m) (e : p.nx m = .dn ∨ p.nx m = .ud) (h : Wok p k W) (q : Okq p k u) : (u = true → W = some (.str "undid")) ∧ W ≠ none := by
 cases p with
 | up j =>
  have hj : ¬ ((j : Int) < m) := fun z => by
   have e1 : (Ph.up j).nx m = .dO j := by show doD (m : Int) (j : Int) = _; unfold doD; rw [if_pos z]
   rw [e1] at e
   rcases e with e | e <;> cases e
  have hW := h.1 (by omega)
  exact ⟨fun z => (by rw [q.1] at z; cases z), by rw [hW]; simp⟩
 | no j r =>
  have hr : ¬ ((j : Int) - 1 - r ≥ 0) := fun z => by
   have e1 : (Ph.no j r).nx m = .un ((j : Int) - 1 - r) := by show unD ((j : Int) - 1 - r) = _; unfold unD; rw [if_pos z]
   rw [e1] at e
   rcases e with e | e <;> cases e
  obtain ⟨h1, h2, h3⟩ := h
  rcases q with ⟨rfl, hq⟩ | ⟨rfl, hq, _⟩
  ·refine ⟨fun z => (by cases z), ?_⟩
   by_cases e : k = j
   ·rw [h2 e]; simp
   ·rw [(h3 (by omega)).1 (by omega)]; simp
  ·have z := (h3 hq).1 (by omega)
   exact ⟨fun _ => z, by rw [z]; simp⟩
 | un j r =>
  have hr : ¬ ((j : Int) - r ≥ 0) := fun z => by
   have e1 : (Ph.un j r).nx m = .un ((j : Int) - r) := by show unD ((j : Int) - r) = _; unfold unD; rw [if_pos z]
   rw [e1] at e
   rcases e with e | e <;> cases e
  obtain ⟨h1, h2⟩ := h
  have hkj : k ≤ j := by rcases q with ⟨_, z⟩ | ⟨_, z, _⟩ <;> exact z
  have z := (h2 hkj).1 (by omega)
  exact ⟨fun _ => z, by rw [z]; simp⟩
theorem qdx {κ : Type} [DecidableEq κ] {F : List (κ × V)} {k : κ} {v : V} (nk : (F.map (·.1)).Nodup) (h : valV F k = some v) : putK F k v = F := by
 rw [q4y v h]
 refine (List.map_congr_left fun kv hv => ?_).trans (List.map_id _)
 by_cases e : kv.1 = k
 ·rw [if_pos e]
  have h2 := q4f nk (k := kv.1) (v := kv.2) hv
  unfold valV at h
  rw [← e, h2] at h
  have e3 : kv.2 = v := Option.some.inj h
  rw [← e3]
  rfl
 ·rw [if_neg e]
  rfl
def dueS (R : Rn) (p : Int × Rq) : Str := if p.2.word = "do" then (if ((R.desks[p.1.toNat]?).bind fun (q : Tb × Fb) => valV q.2 (kk p.2.w p.2.st)) = some (.str "did") then "did" else "no") else "undid"
theorem qc1 {c : Int} {L : List Tb} {R : Rn} {n : Nat} {ph : Str → Ph} (ci : CI c L R) (ki : KI R ph) (ok : RnOk R n) (en : ∀ v ∈ R.works, nxOf v.2.length (R.trail v.1) = .dn ∨ nxOf v.2.length (R.trail v.1) = .ud) {i : Nat} {p : Int × Rq} (h : R.lost[i]? = some p) : q1c R (.late i) = (.str (dueS R p), R) := by
 obtain ⟨x, ss, hm, k, s, u, hs, ep, q⟩ := ki.lo p (List.mem_of_getElem? h)
 have hw := ki.wd x ss hm k s hs
 obtain ⟨okp, et⟩ := ki.tr x ss hm
 have he := en (x, ss) hm
 dsimp only at he
 rw [et, Ph.nx_of] at he
 have hk : k < ss.length := (List.getElem?_eq_some_iff.mp hs).1
 obtain ⟨w1, w2⟩ := qat okp hk he hw q
 have hd := ok.sd x ss hm s (List.mem_of_getElem? hs)
 have hi : s.d.toNat < R.desks.length := by omega
 have e : R.desks[s.d.toNat]? = some (R.desks[s.d.toNat].1, R.desks[s.d.toNat].2) := List.getElem?_eq_getElem hi
 have eset : R.desks.set s.d.toNat (R.desks[s.d.toNat].1, R.desks[s.d.toNat].2) = R.desks := List.set_getElem_self hi
 have nk := ci.nk _ _ _ e
 generalize R.desks[s.d.toNat].1 = T at e eset
 generalize R.desks[s.d.toNat].2 = F at e eset nk
 have ew : q19 R s.d x k = valV F (kk x k) := by unfold q19; rw [e]
 rw [ew] at w1 w2
 subst ep
 show q2w R i = _
 unfold q2w
 rw [if_neg (by omega), Int.toNat_natCast, h]
 dsimp only
 have ea : ∀ q, q0n R s.d q = ((q20 T F q).1, setD R s.d.toNat (q20 T F q).2) := fun q => by unfold q0n; rw [e]
 rw [ea]
 have es : setD R s.d.toNat (T, F) = R := by unfold setD; rw [eset]
 cases u with
 | false =>
  cases hv : valV F (kk x k) with
  | none => exact absurd hv w2
  | some v =>
   have e1 : q20 T F (reqM x s (if false = true then "undo" else "do") k) = ((if v = .str "did" then ("did" : Str) else ("no" : Str)), T, F) := by
    show doM T F (kk x k) s.x s.n = _
    unfold doM
    rw [hv]
   have e2 : dueS R (s.d, reqM x s (if false = true then "undo" else "do") k) = (if v = .str "did" then ("did" : Str) else ("no" : Str)) := by
    unfold dueS
    rw [if_pos (show (reqM x s (if false = true then "undo" else "do") k).word = "do" from rfl)]
    show (if ((R.desks[s.d.toNat]?).bind fun (q : Tb × Fb) => valV q.2 (kk x k)) = some (.str "did") then _ else _) = _
    rw [e]
    show (if valV F (kk x k) = some (.str "did") then _ else _) = _
    rw [hv]
    by_cases z : v = .str "did"
    ·rw [if_pos z, if_pos (by rw [z])]
    ·rw [if_neg z, if_neg (fun w => z (Option.some.inj w))]
   rw [e1, e2]
   dsimp only
   rw [es]
 | true =>
  have hv := w1 rfl
  have e1 : q20 T F (reqM x s (if true = true then "undo" else "do") k) = (("undid" : Str), T, F) := by
   show q2y T F (kk x k) s.x s.n = _
   unfold q2y
   rw [hv, if_neg (fun w => absurd (V.str.inj (Option.some.inj w)) (show ¬ (("undid" : Str) = "did") by decide +kernel)), qdx nk hv]
  have e2 : dueS R (s.d, reqM x s (if true = true then "undo" else "do") k) = "undid" := by
   unfold dueS
   rw [if_neg (show ¬ (reqM x s (if true = true then "undo" else "do") k).word = "do" from show ¬ (("undo" : Str) = "do") by decide +kernel)]
  rw [e1, e2]
  dsimp only
  rw [es]
def q6w (R : Rn) (i : Nat) : Str := match R.lost[i]? with
 | some p => dueS R p
 | none => ""
theorem q7r {R : Rn} : ∀ (is : List Nat), (∀ i ∈ is, q1c R (.late i) = (.str (q6w R i), R)) → runD R (is.map fun (i : Nat) => Deed.late i) = (is.map fun i => An.str (q6w R i), R)
 | [], _ => rfl
 | i :: is, h => by
  have e2 : runD R (List.map (fun (i : Nat) => Deed.late i) (i :: is)) = ((q1c R (.late i)).1 :: (runD (q1c R (.late i)).2 (is.map fun (i : Nat) => Deed.late i)).1, (runD (q1c R (.late i)).2 (is.map fun (i : Nat) => Deed.late i)).2) := q3u R [.late i] (is.map fun (i : Nat) => Deed.late i)
  rw [e2, h i (.head _)]
  dsimp only
  rw [q7r is fun j hj => h j (.tail _ hj)]
  rfl
theorem qjw (m : Nat) (c : Nx) (h : ∀ i, c = .un i → 0 ≤ i ∧ i < m) : mu m c ≤ 2 * m := by
 cases c with
 | dO i => simp [mu]
 | un i => have := h i rfl; simp [mu]; omega
 | _ => exact Nat.zero_le _
abbrev go24 (w : Str × List Stp) : List Deed := List.replicate 24 (.go w.1 "ok")
theorem qd9 : ∀ (ws : List (Str × List Stp)) {R : Rn} {n : Nat}, RnOk R n → R.up = true → (ws.map (·.1)).Nodup → (∀ w ∈ ws, w ∈ R.works ∧ w.2.length ≤ 12) → EndsW R (runD R (ws.flatMap go24)).2 ws
 | [], R, n, ok, up, nd, h => ⟨rfl, rfl, fun x => ⟨[], by simp [runD]⟩, fun y _ => rfl, fun v hv => by simp at hv⟩
 | v :: ws, R, n, ok, up, nd, h => by
  rw [List.flatMap_cons, q3u]
  dsimp only
  rw [List.map_cons, List.nodup_cons] at nd
  obtain ⟨hv, h12⟩ := h v (.head _)
  have hw : R.wk v.1 = some v.2 := qbp ok hv
  obtain ⟨W, E⟩ := gos 24 ok up hw (by have := qjw v.2.length (nxOf v.2.length (R.trail v.1)) fun i e => ok.next hv (.inr e); omega)
  have ok1 := ok.run (List.replicate 24 (.go v.1 "ok")) qhu
  show EndsW R (runD (runD R (List.replicate 24 (.go v.1 "ok"))).2 (ws.flatMap go24)).2 (v :: ws)
  generalize (runD R (List.replicate 24 (.go v.1 "ok"))).2 = R1 at W E ok1
  have nv : ∀ w ∈ ws, ¬ w.1 = v.1 := fun w hw' e => nd.1 (List.mem_map.mpr ⟨w, hw', e⟩)
  have I := qd9 ws ok1 (W.u.trans up) nd.2 fun w hw' => ⟨by rw [W.w]; exact (h w (.tail _ hw')).1, (h w (.tail _ hw')).2⟩
  refine ⟨I.w.trans W.w, I.u.trans W.u, fun x => ?_, fun y hy => ?_, fun z hz => ?_⟩
  ·obtain ⟨t, e⟩ := I.pre x
   by_cases hx : x = v.1
   ·subst hx
    obtain ⟨t', e'⟩ := W.pre
    exact ⟨t' ++ t, by rw [e, e', List.append_assoc]⟩
   ·exact ⟨t, by rw [e, W.oth x hx]⟩
  ·rw [List.map_cons, List.mem_cons, not_or] at hy
   rw [I.oth y hy.2, W.oth y hy.1]
  ·rw [List.mem_cons] at hz
   rcases hz with rfl | hz
   ·rw [I.oth _ nd.1]; exact E
   ·exact I.fin z hz
theorem qgm (R : Rn) : (q1c R .wake).2.up = true := by
 show (if R.up = true then (An.bl false, R) else (.bl true, { R with up := true })).2.up = true
 by_cases h : R.up = true
 ·rw [if_pos h]; exact h
 ·rw [if_neg h]
theorem qj0 {Ts : List Tb} {b : Int} {n : Nat} {c : Int} {ds : List Deed} (okT : StOk Ts n) (tbT : ∀ T ∈ Ts, TbW c T) (okD : ∀ d ∈ ds, q2r c d) (l12 : ∀ v ∈ (runD (newR Ts b) (ds ++ [Deed.wake])).2.works, v.2.length ≤ 12) :
  ∃ R, (runD (newR Ts b) (ds ++ [Deed.wake] ++ (runD (newR Ts b) (ds ++ [Deed.wake])).2.works.flatMap go24)).2 = R ∧ R.works = (runD (newR Ts b) (ds ++ [Deed.wake])).2.works ∧ RnOk R (n + (ds ++ [Deed.wake] ++ (runD (newR Ts b) (ds ++ [Deed.wake])).2.works.flatMap go24).length) ∧ (∃ L, CI c L R) ∧ ∀ i, i < R.lost.length → q1c R (.late (i : Nat)) = (.str (q6w R i), R) := by
 have ok0 : RnOk (newR Ts b) n := q56 okT
 have okA : ∀ d ∈ ds ++ [Deed.wake], q2r c d := fun d hd => by
  rw [List.mem_append] at hd
  rcases hd with z | z
  ·exact okD d z
  ·simp at z; subst z; trivial
 have okB : ∀ d ∈ ds ++ [Deed.wake] ++ (runD (newR Ts b) (ds ++ [Deed.wake])).2.works.flatMap go24, q2r c d := fun d hd => by
  rw [List.mem_append] at hd
  rcases hd with z | z
  ·exact okA d z
  ·rw [List.mem_flatMap] at z
   obtain ⟨v, _, z⟩ := z
   rw [List.mem_replicate] at z
   rw [z.2]
   exact .inl rfl
 have len : ∀ {es : List Deed}, (∀ d ∈ es, q2r c d) → ∀ d ∈ es, ∀ x ss, d = .start x ss → ss.length ≤ 1000 := fun h d hd x ss e => by
  have := h d hd
  rw [e] at this
  have := this.2.1
  omega
 have ok1 := ok0.run _ (len okA)
 have up1 : (runD (newR Ts b) (ds ++ [Deed.wake])).2.up = true := by rw [q26]; exact qgm _
 have I := qd9 _ ok1 up1 ok1.nod fun v hv => ⟨hv, l12 v hv⟩
 have e1 : (runD (newR Ts b) (ds ++ [Deed.wake] ++ (runD (newR Ts b) (ds ++ [Deed.wake])).2.works.flatMap go24)).2 = (runD (runD (newR Ts b) (ds ++ [Deed.wake])).2 ((runD (newR Ts b) (ds ++ [Deed.wake])).2.works.flatMap go24)).2 := by rw [q3u (newR Ts b) (ds ++ [Deed.wake])]
 have ok2 := ok0.run _ (len okB)
 have ci := (CI.new b tbT).run ok0 _ okB
 obtain ⟨ph, ki⟩ := (KI.new Ts b).run ok0 _ (len okB)
 rw [← e1] at I
 refine ⟨_, rfl, I.w, ok2, ⟨_, ci⟩, fun i hi => ?_⟩
 have ei := List.getElem?_eq_getElem hi
 have := qc1 ci ki ok2 (fun v hv => I.fin v (by rw [I.w] at hv; exact hv)) ei
 rw [this]
 unfold q6w
 rw [ei]
end K08
end
section
namespace K08
open PySem L2
section
variable {P : Program} {w : World} {K : PySem.W.Frag} {mg : Str → Option Value} {base : Heap}
def qc9 (H : Hp) (ws : List (Str × List Stp)) (wa : Str → Addr) : Prop := ∀ x ss, (x, ss) ∈ ws → ∃ as, H (wa x) = some (.lst (as.map V.ref)) ∧ Stps H as ss
theorem qc9.same {H H' : Hp} {ws : List (Str × List Stp)} {wa : Str → Addr} (h : qc9 H ws wa) (k : Kp [] H H') : qc9 H' ws wa := fun x ss hm => let ⟨as, h1, h2⟩ := h x ss hm; ⟨as, k.get h1 nEm, h2.same k⟩
theorem q8l : ∀ (ds : List Deed), (q0l ds).length ≤ ds.length := by
 suffices g : ∀ (k : Nat) (es : List Deed), es.length = k → (q0l es).length ≤ es.length from fun ds => g _ ds rfl
 intro k
 induction k with
 | zero => intro es he; rw [List.length_eq_zero_iff.mp he]; exact Nat.le_refl _
 | succ k ih =>
  intro es he
  obtain ⟨es', d, rfl⟩ := q3o (l := es) (by intro z; rw [z] at he; cases he)
  have := ih es' (by simpa using he)
  rw [q22]
  cases d with
  | start x ss =>
   show (if wkF (q0l es') x = none then q0l es' ++ [(x, ss)] else q0l es').length ≤ _
   split
   ·simp; omega
   ·simp; omega
  | _ => exact Nat.le_trans this (by simp)
def q7n : Sp := fun vs H Q _ => ∃ (l : Addr) (ad : List Addr) (ds : List Deed) (c : Int), vs = [.ref l, .int c] ∧ H l = some (.lst (ad.map V.ref)) ∧ Deeds H ad ds ∧ ds.length ≤ 800 ∧
 ∀ (p : Addr) (wa : Str → Addr) (H' : Hp), H p = none → H' p = some (.dK (wkT (q0l ds) wa)) → qc9 H' (q0l ds) wa → Kp [] H H' → Q (.ref p) H'
theorem q66 : FnScope ["_law_deeds", "_law_count", "_law_works", "_law_deed"] ["_law_deeds", "_law_count"] (q03 q3d) := ⟨rfl, rfl, rfl, by decide +kernel, rfl, by decide +kernel, by decide +kernel⟩
theorem qdo {d : Deed} (h : ¬ ∃ x ss, d = .start x ss) : ¬ V.str (qjd d) = V.str "start" := by
 intro z
 cases d with
 | start x ss => exact h ⟨x, ss, rfl⟩
 | go _ _ => exact absurd (V.str.inj z) (show ¬ (("go" : Str) = "start") by decide +kernel)
 | late _ => exact absurd (V.str.inj z) (show ¬ (("late" : Str) = "start") by decide +kernel)
 | fill _ _ _ => exact absurd (V.str.inj z) (show ¬ (("fill" : Str) = "start") by decide +kernel)
 | stop => exact absurd (V.str.inj z) (show ¬ (("stop" : Str) = "start") by decide +kernel)
 | wake => exact absurd (V.str.inj z) (show ¬ (("wake" : Str) = "start") by decide +kernel)
theorem qb2 {d : Deed} (h : ¬ ∃ x ss, d = .start x ss) (ws : List (Str × List Stp)) : q9e ws d = ws := by
 cases d with
 | start x ss => exact absurd ⟨x, ss, rfl⟩ h
 | _ => rfl
theorem q9x {f : Addr} {fd : FuncData} (Fn : Fun K "_law_started" "_law_started" q3d f fd) (B : Blt mg) : FnOk P w K mg base CX0 1 f fd ["_law_deeds", "_law_count"] q7n := by
 refine Fn.ok q66 (fun vs H Q E h => ?_) (fun cdv A outer s H vs Q E hr h => ?_)
 ·obtain ⟨l, ad, ds, c, rfl, _⟩ := h
  rfl
 ·obtain ⟨l, ad, ds, c, rfl, hl, D, hz, q⟩ := h
  have nd := q66.nd
  have hu := q3r hr
  refine ⟨_, (q02 (q0r (i := 2) nd rfl (Or.inl rfl) q3y)
   (q02 (q25 PassesOwn.never rfl (q1j (pv 0)) (q10 (i := 3) nd rfl (Or.inl rfl))
   (q06 (q0w (PW.pt (qjr (q0h q23 (q0j q0i (pv 3) q01 (fun _ _ => rfl)) q0e (q0q _)) (qhj (q4k (q54 hu (q0j q0i (pv 3) q01 (fun _ _ => rfl)) (pv 2))))))
   (q06 (q28 hu (pv 2) (q0j q0i (pv 3) q01 (fun _ _ => rfl)) (q0j q0i (pv 3) q01 (fun _ _ => rfl)) rfl))
   q0b)))
   (q06 (q0a (pv 2))))), ?_⟩
  refine fun wd hwd => ?_
  have kw : Kp [] H (upd H wd (.dK [])) := Kp.new hwd
  refine ⟨_, rfl, l, rfl, ⟨_, SqL.of (kw.get hl nEm)⟩, ?_⟩
  refine q1u (xs := ad.map V.ref) (fun i σ H2 => ∃ (v3 : Option V) (wa : Str → Addr), σ = [some (.ref l), some (.int c), some (.ref wd), v3] ∧ H2 wd = some (.dK (wkT (q0l (ds.take i)) wa)) ∧ qc9 H (q0l (ds.take i)) wa ∧ Kp [] H H2) ?_ ?_ ?_ ?_
  ·exact ⟨none, fun _ => 0, rfl, q05, fun x ss hm => by simp [q0l] at hm, kw⟩
  ·rintro i σ H2 hi ⟨v3, wa, rfl, hw2, W, kp⟩
   exact SqL.of (kp.get hl nEm)
  ·rintro i x σ H2 hx ⟨v3, wa, rfl, hw2, W, kp⟩
   rw [List.getElem?_map] at hx
   cases ea : ad[i]? with
   | none => rw [ea] at hx; cases hx
   | some a =>
   rw [ea] at hx
   obtain rfl : V.ref a = x := Option.some.inj hx
   have hi : i < ds.length := by rw [← D.len]; exact (List.getElem?_eq_some_iff.mp ea).1
   have ed : ds[i]? = some ds[i] := List.getElem?_eq_getElem hi
   have hdA := D.at_ i a _ ea ed
   have et := q2p ed
   have ls := q8l (ds.take i)
   rw [List.length_take] at ls
   generalize ds[i] = d at hdA et
   obtain ⟨xs, hx0⟩ := (hdA.same kp).head
   refine ⟨_, rfl, a, _, _, _, rfl, rfl, SqT.of hx0, q07 (j := 0) rfl, rfl, _, rfl, ?_⟩
   by_cases hs : ∃ x ss, d = .start x ss
   ·obtain ⟨x, ss, rfl⟩ := hs
    obtain ⟨p, as, h1, h2, h3, h4⟩ := hdA
    have h1' := kp.get h1 nEm
    refine iteD rfl ?_
    have eF : q0l (ds.take (i + 1)) = (if wkF (q0l (ds.take i)) x = none then q0l (ds.take i) ++ [(x, ss)] else q0l (ds.take i)) := by rw [et, q22]; rfl
    cases hw : wkF (q0l (ds.take i)) x with
    | none =>
     rw [if_pos hw] at eF
     have dg : DGet H2 wd (.str x) none := by
      have := DGet.k (k := Sum.inr x) hw2
      rw [q2z, hw] at this
      exact this
     refine ⟨_, rfl, a, _, _, _, rfl, rfl, SqT.of h1', q07 (j := 1) rfl, _, rfl, wd, _, rfl, dg, _, rfl, iteT ?_⟩
     refine ⟨_, rfl, a, _, _, _, rfl, rfl, SqT.of h1', q07 (j := 2) rfl, _, rfl, _, rfl, a, _, _, _, rfl, rfl, SqT.of h1', q07 (j := 1) rfl, wd, _, rfl, .inl ⟨_, Sum.inr x, hw2, rfl, q0u (by unfold wkT; rw [List.length_map]; omega), rfl⟩, ?_⟩
     refine ⟨_, (fun y => if y = x then p else wa y), rfl, ?_, ?_, fun b o e _ => by rw [q08 (q09 e hwd)]; exact kp.get e nEm⟩
     ·rw [q05, eF, q88 _ wa ss p hw]
     ·rw [eF]
      intro y tt hm
      by_cases ey : y = x
      ·subst ey
       dsimp only
       rw [if_pos rfl]
       rw [List.mem_append] at hm
       rcases hm with z | z
       ·exact absurd rfl (q3h hw _ z)
       ·simp at z; subst z; exact ⟨as, h2, h3⟩
      ·dsimp only
       rw [if_neg ey]
       rw [List.mem_append] at hm
       rcases hm with z | z
       ·exact W y tt z
       ·simp at z; exact absurd z.1 ey
    | some tt =>
     rw [if_neg (by rw [hw]; simp)] at eF
     have dg : DGet H2 wd (.str x) (some (V.ref (wa x))) := by
      have := DGet.k (k := Sum.inr x) hw2
      rw [q2z, hw] at this
      exact this
     refine ⟨_, rfl, a, _, _, _, rfl, rfl, SqT.of h1', q07 (j := 1) rfl, _, rfl, wd, _, rfl, dg, _, rfl, iteF ?_⟩
     exact ⟨_, wa, rfl, by rw [eF]; exact hw2, by rw [eF]; exact W, kp⟩
   ·refine q1o (qdo hs) ?_
    have eF : q0l (ds.take (i + 1)) = q0l (ds.take i) := by rw [et, q22, qb2 hs]
    exact ⟨_, wa, rfl, by rw [eF]; exact hw2, by rw [eF]; exact W, kp⟩
  ·rintro σ H2 ⟨v3, wa, rfl, hw2, W, kp⟩
   have e : ds.take (ad.map V.ref).length = ds := by rw [List.length_map, D.len, List.take_length]
   rw [e] at hw2 W
   exact ⟨_, rfl, q wd wa H2 hwd hw2 (W.same kp) kp⟩
theorem eqS {K : PySem.W.Frag} {H : Hp} {n : Nat} (s : Str) : EqH K H n (.str s) (.str s) true := by
 have := EqH.flat (K := K) (H := H) (n := n) (x := .str s) (y := .str s) rfl rfl
 have e : eqV (.str s) (.str s) = true := by show (s == s) = true; simp
 rw [e] at this
 exact this
theorem eqI {K : PySem.W.Frag} {H : Hp} {n : Nat} (i : Int) : EqH K H n (.int i) (.int i) true := by
 have := EqH.flat (K := K) (H := H) (n := n) (x := .int i) (y := .int i) rfl rfl
 have e : eqV (.int i) (.int i) = true := by show (i == i) = true; simp
 rw [e] at this
 exact this
theorem qc2 {K : PySem.W.Frag} {H : Hp} {n : Nat} {a b : Addr} {xs ys : List V} (ha : H a = some (.tup xs)) (hb : H b = some (.tup ys)) (hl : xs.length = ys.length) (h : ∀ (j : Nat) x y, xs[j]? = some x → ys[j]? = some y → EqH K H n x y true) : EqH K H (n + 1) (.ref a) (.ref b) true := by
 by_cases e : a = b
 ·subst e
  exact .same a
 ·have := EqH.tup (K := K) (n := n) (e := fun _ => true) e (SqT.of ha) (SqT.of hb) h
  rw [q97, hl] at this
  simpa using this
theorem qah {K : PySem.W.Frag} {H : Hp} {n : Nat} {a b : Addr} {xs ys : List V} (ha : H a = some (.lst xs)) (hb : H b = some (.lst ys)) (hl : xs.length = ys.length) (h : ∀ (j : Nat) x y, xs[j]? = some x → ys[j]? = some y → EqH K H n x y true) : EqH K H (n + 1) (.ref a) (.ref b) true := by
 by_cases e : a = b
 ·subst e
  exact .same a
 ·have := EqH.lst (K := K) (n := n) (e := fun _ => true) e (SqL.of ha) (SqL.of hb) hl h
  rw [q97] at this
  exact this
theorem q84 {K : PySem.W.Frag} {H : Hp} {n : Nat} {xs : List V} (h : ∀ x ∈ xs, (∃ s, x = .str s) ∨ ∃ i, x = .int i) : ∀ (j : Nat) x y, xs[j]? = some x → xs[j]? = some y → EqH K H n x y true := fun j x y e1 e2 => by
 rw [e1] at e2
 cases e2
 rcases h x (List.mem_of_getElem? e1) with ⟨s, rfl⟩ | ⟨i, rfl⟩
 ·exact eqS s
 ·exact eqI i
theorem qjk {K : PySem.W.Frag} {H : Hp} {n : Nat} {as bs : List Addr} {t : List En} (h1 : Ents H as t) (h2 : Ents H bs t) : ∀ (j : Nat) x y, (as.map V.ref)[j]? = some x → (bs.map V.ref)[j]? = some y → EqH K H (n + 1) x y true := fun j x y e1 e2 => by
 rw [List.getElem?_map] at e1 e2
 cases ea : as[j]? with
 | none => rw [ea] at e1; cases e1
 | some a =>
  cases eb : bs[j]? with
  | none => rw [eb] at e2; cases e2
  | some b =>
   rw [ea] at e1
   rw [eb] at e2
   obtain rfl : V.ref a = x := Option.some.inj e1
   obtain rfl : V.ref b = y := Option.some.inj e2
   obtain ⟨e, et, ha⟩ := h1.get ea
   have hb := h2.at_ j b e eb et
   exact qc2 ha hb rfl (q84 fun x hx => by
    unfold enV at hx
    simp at hx
    rcases hx with z | z
    ·exact .inl ⟨_, z⟩
    ·exact .inr ⟨_, z⟩)
theorem qdr {t t2 u : TS} {D : Ends} {σ : St} {H : Hp} (Pv : St → Hp → Prop) (key : ∀ σ' H', Pv σ' H' → u D σ' H') (h : (∀ σ' H', Pv σ' H' → u D σ' H') → tSeq t (tSeq t2 u) D σ H) : tSeq t (tSeq t2 u) D σ H := h key
theorem q4l.same {H H' : Hp} {bs : List Addr} {rows : List (Str × List En)} (h : q4l H bs rows) (k : Kp [] H H') : q4l H' bs rows := ⟨h.1, fun j b row e1 e2 => let ⟨l, as, h1, h2⟩ := h.2 j b row e1 e2; ⟨l, as, k.get h1 nEm, h2.same k⟩⟩
theorem qk7 {K : PySem.W.Frag} {H : Hp} {n : Nat} {p q : Addr} {a b : Str} {m k : Int} (hp : H p = some (.tup [.str a, .int m])) (hq : H q = some (.tup [.str b, .int k])) : EqH K H (n + 1) (.ref p) (.ref q) (decide (a = b ∧ m = k)) := by
 by_cases e : p = q
 ·subst e
  rw [hp] at hq
  injection hq with hq
  injection hq with hq
  rw [decide_eq_true ⟨V.str.inj (List.cons.inj hq).1, V.int.inj (List.cons.inj (List.cons.inj hq).2).1⟩]
  exact .same p
 ·have := EqH.tup (K := K) (n := n) (e := fun j => if j = 0 then eqV (.str a) (.str b) else eqV (.int m) (.int k)) e (SqT.of hp) (SqT.of hq) fun j x y e1 e2 => by
   match j, e1, e2 with
   | 0, e1, e2 => cases e1; cases e2; exact .flat rfl rfl
   | 1, e1, e2 => cases e1; cases e2; exact .flat rfl rfl
   | j + 2, e1, e2 => simp at e1
  have eb : ((List.range (min [V.str a, V.int m].length [V.str b, V.int k].length)).all (fun j => if j = 0 then eqV (.str a) (.str b) else eqV (.int m) (.int k)) && [V.str a, V.int m].length == [V.str b, V.int k].length) = decide (a = b ∧ m = k) := by
   show ((eqV (.str a) (.str b) && (eqV (.int m) (.int k) && true)) && true) = _
   rw [Bool.and_true, Bool.and_true]
   show ((a == b) && (m == k)) = _
   by_cases c1 : a = b
   ·by_cases c2 : m = k
    ·simp [c1, c2]
    ·simp [c2]
   ·simp [c1]
  rw [eb] at this
  exact this
theorem qj1 {κ : Type} [DecidableEq κ] {F : List (κ × V)} {k : κ} {v : V} (h : valV F k = some v) : (k, v) ∈ F := by
 unfold valV at h
 cases e : F.find? fun kv => decide (kv.1 = k) with
 | none => rw [e] at h; cases h
 | some q =>
  rw [e] at h
  cases h
  have h1 := List.find?_some e
  have h1 := of_decide_eq_true h1
  have h2 := List.mem_of_find?_eq_some e
  obtain ⟨a, b⟩ := q
  dsimp only at h1
  subst h1
  exact h2
theorem qi1 {K : PySem.W.Frag} {H : Hp} {kq p t0 : Addr} {bs : List Addr} {F : Fb} {w : Str} {st : Int} {Q : VK} (hl : H kq = some (.lst (bs.map V.ref))) (KR : q2o H bs F) (kw : q3e F) (nk : (F.map (·.1)).Nodup) (hp : H p = some (.tup [.ref t0, .str "did"])) (ht : H t0 = some (.tup [.str w, .int st])) (h : Q (.bl (decide (valV F (kk w st) = some (.str "did")))) H) : rInA K false (.ref p) (.ref kq) H Q := by
 classical
 have row : ∀ {i : Nat} {a : Addr}, bs[i]? = some a → ∃ (x : Str) (n : Int) (y : Str) (c : Addr), F[i]? = some ([Sum.inr x, Sum.inl n], .str y) ∧ H a = some (.tup [.ref c, .str y]) ∧ H c = some (.tup [.str x, .int n]) := fun {i a} ei => by
  have hi : i < F.length := by rw [← KR.1]; exact (List.getElem?_eq_some_iff.mp ei).1
  have eF := List.getElem?_eq_getElem hi
  obtain ⟨c, h1, h2⟩ := KR.2 i a _ ei eF
  obtain ⟨x, n, y, e⟩ := kw _ (List.getElem_mem hi)
  rw [e] at h1 h2 eF
  exact ⟨x, n, y, c, eF, h1, h2⟩
 refine ⟨kq, bs, (fun a => decide (∃ c, H a = some (.tup [.ref c, .str "did"]) ∧ H c = some (.tup [.str w, .int st]))), rfl, SqL.of hl, fun a ha => ?_, ?_⟩
 ·obtain ⟨i, ei⟩ := List.mem_iff_getElem?.mp ha
  obtain ⟨x, n, y, c, _, h1, h2⟩ := row ei
  by_cases ep : a = p
  ·subst ep
   dsimp only
   rw [decide_eq_true ⟨t0, hp, ht⟩]
   exact .same a
  ·have := EqH.tup (K := K) (n := 59) (e := fun j => if j = 0 then decide (x = w ∧ n = st) else eqV (.str y) (.str "did")) ep (SqT.of h1) (SqT.of hp) fun j u v e1 e2 => by
    match j, e1, e2 with
    | 0, e1, e2 => cases e1; cases e2; exact qk7 h2 ht
    | 1, e1, e2 => cases e1; cases e2; exact .flat rfl rfl
    | j + 2, e1, e2 => simp at e1
   have eb : ((List.range (min [V.ref c, V.str y].length [V.ref t0, V.str "did"].length)).all (fun j => if j = 0 then decide (x = w ∧ n = st) else eqV (.str y) (.str "did")) && [V.ref c, V.str y].length == [V.ref t0, V.str "did"].length) = decide (∃ c, H a = some (.tup [.ref c, .str "did"]) ∧ H c = some (.tup [.str w, .int st])) := by
    show ((decide (x = w ∧ n = st) && (eqV (.str y) (.str "did") && true)) && true) = _
    rw [Bool.and_true, Bool.and_true]
    show (decide (x = w ∧ n = st) && (y == "did")) = _
    by_cases c1 : (x = w ∧ n = st) ∧ y = "did"
    ·obtain ⟨⟨rfl, rfl⟩, rfl⟩ := c1
     rw [decide_eq_true (p := ∃ c, H a = some (.tup [.ref c, .str "did"]) ∧ H c = some (.tup [.str x, .int n])) ⟨c, h1, h2⟩]
     simp
    ·rw [decide_eq_false (p := ∃ c, H a = some (.tup [.ref c, .str "did"]) ∧ H c = some (.tup [.str w, .int st])) (fun ⟨c', w1, w2⟩ => c1 (by
      rw [h1] at w1
      injection w1 with w1
      injection w1 with w1
      have e1 : c = c' := V.ref.inj (List.cons.inj w1).1
      have e2 : y = "did" := V.str.inj (List.cons.inj (List.cons.inj w1).2).1
      subst e1
      rw [h2] at w2
      injection w2 with w2
      injection w2 with w2
      exact ⟨⟨V.str.inj (List.cons.inj w2).1, V.int.inj (List.cons.inj (List.cons.inj w2).2).1⟩, e2⟩))]
     by_cases c2 : x = w ∧ n = st
     ·have c3 : ¬ y = "did" := fun z => c1 ⟨c2, z⟩
      simp [c3]
     ·simp [c2]
   rw [eb] at this
   exact this
 ·have ea : (bs.any fun a => decide (∃ c, H a = some (.tup [.ref c, .str "did"]) ∧ H c = some (.tup [.str w, .int st]))) = decide (valV F (kk w st) = some (.str "did")) := by
   by_cases c : valV F (kk w st) = some (.str "did")
   ·rw [decide_eq_true c, List.any_eq_true]
    obtain ⟨i, ei⟩ := List.mem_iff_getElem?.mp (qj1 c)
    have hi : i < bs.length := by rw [KR.1]; exact (List.getElem?_eq_some_iff.mp ei).1
    obtain ⟨x, n, y, c', eF, h1, h2⟩ := row (List.getElem?_eq_getElem hi)
    rw [ei] at eF
    cases eF
    exact ⟨bs[i], List.getElem_mem hi, decide_eq_true ⟨c', h1, h2⟩⟩
   ·rw [decide_eq_false c, List.any_eq_false]
    intro a ha z
    obtain ⟨c', w1, w2⟩ := of_decide_eq_true z
    obtain ⟨i, ei⟩ := List.mem_iff_getElem?.mp ha
    obtain ⟨x, n, y, c2, eF, h1, h2⟩ := row ei
    rw [h1] at w1
    injection w1 with w1
    injection w1 with w1
    have e1 : c2 = c' := V.ref.inj (List.cons.inj w1).1
    have e2 : y = "did" := V.str.inj (List.cons.inj (List.cons.inj w1).2).1
    subst e1 e2
    rw [h2] at w2
    injection w2 with w2
    injection w2 with w2
    have e3 : x = w := V.str.inj (List.cons.inj w2).1
    have e4 : n = st := V.int.inj (List.cons.inj (List.cons.inj w2).2).1
    subst e3 e4
    refine c ?_
    have := q4f nk (List.mem_of_getElem? eF)
    unfold valV
    show ((F.find? fun kv => decide (kv.1 = [Sum.inr x, Sum.inl n])).map (·.2)) = _
    rw [this]
    rfl
  show Q (.bl (bs.any _)) H
  rw [ea]
  exact h
theorem qji {K : PySem.W.Frag} {H : Hp} {n : Nat} {as bs : List Addr} {t : List (Str × Int)} (h1 : q2a H as t) (h2 : q2a H bs t) : ∀ (j : Nat) x y, (as.map V.ref)[j]? = some x → (bs.map V.ref)[j]? = some y → EqH K H (n + 1) x y true := fun j x y e1 e2 => by
 rw [List.getElem?_map] at e1 e2
 cases ea : as[j]? with
 | none => rw [ea] at e1; cases e1
 | some a =>
  cases eb : bs[j]? with
  | none => rw [eb] at e2; cases e2
  | some b =>
   rw [ea] at e1
   rw [eb] at e2
   obtain rfl : V.ref a = x := Option.some.inj e1
   obtain rfl : V.ref b = y := Option.some.inj e2
   have hj : j < t.length := by rw [← h1.1]; exact (List.getElem?_eq_some_iff.mp ea).1
   have et := List.getElem?_eq_getElem hj
   exact qc2 (h1.2 j a _ ea et) (h2.2 j b _ eb et) rfl (q84 fun x hx => by
    simp at hx
    rcases hx with z | z
    ·exact .inl ⟨_, z⟩
    ·exact .inr ⟨_, z⟩)
theorem q6p {K : PySem.W.Frag} {H : Hp} {n : Nat} {α : Type} {Ra Rb : Addr → α → Prop} {as bs : List Addr} {t : List α} (la : as.length = t.length) (ha : ∀ (j : Nat) a x, as[j]? = some a → t[j]? = some x → Ra a x) (hb : ∀ (j : Nat) b x, bs[j]? = some b → t[j]? = some x → Rb b x) (h : ∀ a b x, x ∈ t → Ra a x → Rb b x → EqH K H n (.ref a) (.ref b) true) :
  ∀ (j : Nat) x y, (as.map V.ref)[j]? = some x → (bs.map V.ref)[j]? = some y → EqH K H n x y true := fun j x y e1 e2 => by
 rw [List.getElem?_map] at e1 e2
 cases ea : as[j]? with
 | none => rw [ea] at e1; cases e1
 | some a =>
  cases eb : bs[j]? with
  | none => rw [eb] at e2; cases e2
  | some b =>
   rw [ea] at e1
   rw [eb] at e2
   obtain rfl : V.ref a = x := Option.some.inj e1
   obtain rfl : V.ref b = y := Option.some.inj e2
   have hj : j < t.length := by rw [← la]; exact (List.getElem?_eq_some_iff.mp ea).1
   have et := List.getElem?_eq_getElem hj
   exact h a b _ (List.getElem_mem hj) (ha j a _ ea et) (hb j b _ eb et)
theorem eqTh {K : PySem.W.Frag} {H : Hp} {n : Nat} {cs cs' : List Addr} {rowss : List (List (Str × Int))} (h1 : q74 H cs rowss) (h2 : q74 H cs' rowss) : ∀ (j : Nat) x y, (cs.map V.ref)[j]? = some x → (cs'.map V.ref)[j]? = some y → EqH K H (n + 2) x y true :=
 q6p h1.1 h1.2 h2.2 fun a b rows _ ⟨bs, r1, x1, x2, x3, x4⟩ ⟨bs', r2, y1, y2, y3, y4⟩ => by
  have e := q5f x3 y3 (x2.trans y2.symm)
  subst e
  exact qah x1 y1 (by rw [List.length_map, List.length_map, x4.1, y4.1]) (qji x4 y4)
theorem eqKs {K : PySem.W.Frag} {H : Hp} {n : Nat} {qs qs' : List Addr} {Fs : List Fb} (kw : ∀ F ∈ Fs, q3e F) (h1 : q35 H qs Fs) (h2 : q35 H qs' Fs) : ∀ (j : Nat) x y, (qs.map V.ref)[j]? = some x → (qs'.map V.ref)[j]? = some y → EqH K H (n + 3) x y true :=
 q6p h1.1 h1.2 h2.2 fun a b F hF ⟨bs, x1, x2⟩ ⟨bs', y1, y2⟩ => by
  refine qah x1 y1 (by rw [List.length_map, List.length_map, x2.1, y2.1]) (q6p x2.1 x2.2 y2.2 fun a b kv hkv ⟨c, z1, z2⟩ ⟨c', w1, w2⟩ => ?_)
  obtain ⟨x, m, y, rfl⟩ := kw F hF kv hkv
  refine qc2 z1 w1 rfl fun j u v e1 e2 => ?_
  match j, e1, e2 with
  | 0, e1, e2 =>
   cases e1; cases e2
   refine qc2 z2 w2 rfl (q84 fun x hx => ?_)
   have hx : x ∈ [V.str _, V.int _] := hx
   simp at hx
   rcases hx with z | z
   ·exact .inl ⟨_, z⟩
   ·exact .inr ⟨_, z⟩
  | 1, e1, e2 => cases e1; cases e2; exact eqS _
  | j + 2, e1, e2 => simp at e1
theorem eqTr {K : PySem.W.Frag} {H : Hp} {n : Nat} {bs bs' : List Addr} {rows : List (Str × List En)} (h1 : q4l H bs rows) (h2 : q4l H bs' rows) : ∀ (j : Nat) x y, (bs.map V.ref)[j]? = some x → (bs'.map V.ref)[j]? = some y → EqH K H (n + 3) x y true :=
 q6p h1.1 h1.2 h2.2 fun a b row _ ⟨l, as, x1, x2⟩ ⟨l', as', y1, y2⟩ => by
  refine qc2 x1 y1 rfl fun j u v e1 e2 => ?_
  match j, e1, e2 with
  | 0, e1, e2 => cases e1; cases e2; exact eqS _
  | 1, e1, e2 => cases e1; cases e2; exact qah x2.ls y2.ls (by rw [List.length_map, List.length_map, x2.en.len, y2.en.len]) (qjk x2.en y2.en)
  | j + 2, e1, e2 => simp at e1
end
end K08
end
section
namespace K08
open PySem L2
section
variable {P : Program} {w : World} {K : PySem.W.Frag} {mg : Str → Option Value} {base : Heap}
structure StAt (H : Hp) (p : Addr) (tp kp bp : Addr) (tcs qs bs : List Addr) (rowss : List (List (Str × Int))) (R : Rn) : Prop where
 hp : H p = some (.lst [.ref tp, .ref kp, .ref bp])
 ht : H tp = some (.lst (tcs.map V.ref))
 T : q74 H tcs rowss
 hk : H kp = some (.lst (qs.map V.ref))
 Ks : q35 H qs (R.desks.map (·.2))
 hb : H bp = some (.lst (bs.map V.ref))
 Tr : q4l H bs (q99 R)
theorem StAt.same {H H' : Hp} {p tp kp bp : Addr} {tcs qs bs : List Addr} {rowss : List (List (Str × Int))} {R : Rn} (h : StAt H p tp kp bp tcs qs bs rowss R) (k : Kp [] H H') : StAt H' p tp kp bp tcs qs bs rowss R :=
 ⟨k.get h.hp nEm, k.get h.ht nEm, h.T.same k, k.get h.hk nEm, h.Ks.same k, k.get h.hb nEm, h.Tr.same k⟩
theorem eqSt {K : PySem.W.Frag} {H : Hp} {p tp kp bp p' tp' kp' bp' : Addr} {tcs qs bs tcs' qs' bs' : List Addr} {rowss : List (List (Str × Int))} {R : Rn} (kw : ∀ F ∈ R.desks.map (·.2), q3e F) (h1 : StAt H p tp kp bp tcs qs bs rowss R) (h2 : StAt H p' tp' kp' bp' tcs' qs' bs' rowss R) :
  ∀ (j : Nat) x y, [V.ref tp, V.ref kp, V.ref bp][j]? = some x → [V.ref tp', V.ref kp', V.ref bp'][j]? = some y → EqH K H 60 x y true := fun j x y e1 e2 => by
 match j, e1, e2 with
 | 0, e1, e2 => cases e1; cases e2; exact qah (n := 59) h1.ht h2.ht (by rw [List.length_map, List.length_map, h1.T.1, h2.T.1]) (eqTh h1.T h2.T)
 | 1, e1, e2 => cases e1; cases e2; exact qah (n := 59) h1.hk h2.hk (by rw [List.length_map, List.length_map, h1.Ks.1, h2.Ks.1]) (eqKs kw h1.Ks h2.Ks)
 | 2, e1, e2 => cases e1; cases e2; exact qah (n := 59) h1.hb h2.hb (by rw [List.length_map, List.length_map, h1.Tr.1, h2.Tr.1]) (eqTr h1.Tr h2.Tr)
 | j + 3, e1, e2 => simp at e1
def qbh : Sp := fun vs H Q _ => ∃ (sl dl : Addr) (b : Int) (sas : List Addr) (Ts : List Tb) (ad : List Addr) (ds : List Deed) (c : Nat) (rowss : List (List (Str × Int))), vs = [.ref sl, .int b, .ref dl, .int c] ∧ H sl = some (.lst (sas.map V.ref)) ∧ Stocks H sas Ts ∧ StOk Ts 4 ∧ H dl = some (.lst (ad.map V.ref)) ∧ Deeds H ad ds ∧ ds.length ≤ 800 ∧
 (runD (newR Ts b) ds).2.desks.map (·.1) = rowss.map kvOf ∧ (∀ rows ∈ rowss, rows.length < 64) ∧ rowss.length = c ∧ (∀ F ∈ (runD (newR Ts b) ds).2.desks.map (·.2), q3e F) ∧
 ∀ (p tp kp bp : Addr) (tcs qs bs : List Addr) (H' : Hp), H p = none → StAt H' p tp kp bp tcs qs bs rowss (runD (newR Ts b) ds).2 → Kp [] H H' → Q (.ref p) H'
theorem q9q : FnScope ["_law_stocks", "_law_bound", "_law_deeds", "_law_count", "_law_things", "_law_keys", "_law_trails"] ["_law_stocks", "_law_bound", "_law_deeds", "_law_count"] (q03 q5w) := ⟨rfl, rfl, rfl, by decide +kernel, rfl, by decide +kernel, by decide +kernel⟩
theorem qdg {f : Addr} {fd : FuncData} (Fn : Fun K "_law_state" "_law_state" q5w f fd) (B : Blt mg) (Dlaw_copied : Df P w K mg base CX0 1 "_law_copied" ["_law_stocks"] q6i) (Dlaw_copy : Df P w K mg base CX0 1 "_law_copy" ["_law_deeds"] qc8)
  (Dthings_after : Df P w K mg base CX0 12 "things_after" ["stocks", "bound", "deeds"] q9b) (Dkeys_after : Df P w K mg base CX0 12 "keys_after" ["stocks", "bound", "deeds"] qf9) (Dtrails_after : Df P w K mg base CX0 12 "trails_after" ["stocks", "bound", "deeds"] q8t)
  (Dlaw_are_things : Df P w K mg base CX0 2 "_law_are_things" ["_law_found", "_law_count"] qb7) (Dlaw_are_keys : Df P w K mg base CX0 2 "_law_are_keys" ["_law_found", "_law_count"] qfk) (Dlaw_are_trails : Df P w K mg base CX0 3 "_law_are_trails" ["_law_found"] qdb) : FnOk P w K mg base CX0 13 f fd ["_law_stocks", "_law_bound", "_law_deeds", "_law_count"] qbh := by
 refine Fn.ok q9q (fun vs H Q E h => ?_) (fun cdv A outer sh H vs Q E hr h => ?_)
 ·obtain ⟨sl, dl, b, sas, Ts, ad, ds, c, rowss, rfl, _⟩ := h
  rfl
 ·obtain ⟨sl, dl, b, sas, Ts, ad, ds, c, rowss, rfl, hsl, St, okT, hdl, D, lD, eR, h64, lR, kw, k⟩ := h
  have nd := q9q.nd
  have lFs : ((runD (newR Ts b) ds).2.desks.map (·.2)).length = c := by
   have := congrArg List.length eR
   rw [List.length_map, List.length_map] at this
   rw [List.length_map, this, lR]
  refine ⟨_, (q02 (q0r (i := 4) nd rfl (Or.inl rfl) (q0z Dthings_after (hr.mono (by decide)) q0m (q00 (q0z Dlaw_copied (hr.mono (by decide)) q0m (q00 (pv 0) q04)) (q00 (pv 1) (q00 (q0z Dlaw_copy (hr.mono (by decide)) q0m (q00 (pv 2) q04)) q04)))))
   (q02 (q0r (i := 5) nd rfl (Or.inl rfl) (q0z Dkeys_after (hr.mono (by decide)) q0m (q00 (q0z Dlaw_copied (hr.mono (by decide)) q0m (q00 (pv 0) q04)) (q00 (pv 1) (q00 (q0z Dlaw_copy (hr.mono (by decide)) q0m (q00 (pv 2) q04)) q04)))))
   (q02 (q0r (i := 6) nd rfl (Or.inl rfl) (q0z Dtrails_after (hr.mono (by decide)) q0m (q00 (q0z Dlaw_copied (hr.mono (by decide)) q0m (q00 (pv 0) q04)) (q00 (pv 1) (q00 (q0z Dlaw_copy (hr.mono (by decide)) q0m (q00 (pv 2) q04)) q04)))))
   (q02 (q0w (PW.pt (q34 (q1a (q16 (q0z Dlaw_are_things (hr.mono (by decide)) q0m (q00 (pv 4) (q00 (pv 3) q04))))) (q2f (q1a (q16 (q0z Dlaw_are_keys (hr.mono (by decide)) q0m (q00 (pv 5) (q00 (pv 3) q04))))))))
   (q06 (q0a q4g))
   q0b)
   (q02 (q0w (q1a (q16 (q0z Dlaw_are_trails (hr.mono (by decide)) q0m (q00 (pv 6) q04))))
   (q06 (q0a q4g))
   q0b)
   (q06 (q0a (q1i (q00 (pv 4) (q00 (pv 5) (q00 (pv 6) q04))))))))))), ?_⟩
  refine ⟨_, rfl, sl, sas, Ts, rfl, hsl, St, okT.z, fun cs cas H6 hcs hcs6 Sc6 k6 _ => ⟨_, rfl, _, rfl, dl, ad, ds, rfl, k6.get hdl nEm, D.same k6, lD, fun l2 ad2 H7 hl2 hl27 D7 k7 => ⟨cs, l2, b, cas, Ts, ad2, ds, 4, rowss, rfl, ⟨k7.get hcs6 nEm, Sc6.same k7, okT, hl27, D7, by omega⟩, eR, h64, fun tp tcs H8 htp htp8 ltc th8 k8 => ?_⟩⟩⟩
  have k08 := (k6.trans k7).trans k8
  have TA8 : q74 H8 tcs rowss := ⟨ltc, th8⟩
  clear hcs hcs6 Sc6 hl2 hl27 D7 k6 k7 k8 htp th8
  refine ⟨_, rfl, sl, sas, Ts, rfl, k08.get hsl nEm, St.same k08, okT.z, fun cs cas H9 hcs hcs9 Sc9 k9 _ => ⟨_, rfl, _, rfl, dl, ad, ds, rfl, (k08.trans k9).get hdl nEm, D.same (k08.trans k9), lD, fun l2 ad2 HA hl2 hl2A DA kA => ⟨cs, l2, b, cas, Ts, ad2, ds, 4, rfl, ⟨kA.get hcs9 nEm, Sc9.same kA, okT, hl2A, DA, by omega⟩, fun kp qs HB hkp hkpB KAB kB => ?_⟩⟩⟩
  have k8B := (k9.trans kA).trans kB
  have k0B := k08.trans k8B
  have htpB := k8B.get htp8 nEm
  have TAB := TA8.same k8B
  clear hcs hcs9 Sc9 hl2 hl2A DA k9 kA kB hkp htp8 TA8 k08 k8B
  refine ⟨_, rfl, sl, sas, Ts, rfl, k0B.get hsl nEm, St.same k0B, okT.z, fun cs cas HC hcs hcsC ScC kC _ => ⟨_, rfl, _, rfl, dl, ad, ds, rfl, (k0B.trans kC).get hdl nEm, D.same (k0B.trans kC), lD, fun l2 ad2 HD hl2 hl2D DD kD => ⟨cs, l2, b, cas, Ts, ad2, ds, 4, rfl, ⟨kD.get hcsC nEm, ScC.same kD, okT, hl2D, DD, by omega⟩, fun bp bs HE hbp hbpE TR kE => ?_⟩⟩⟩
  have kBE := (kC.trans kD).trans kE
  have k0E := k0B.trans kBE
  have htpE := kBE.get htpB nEm
  have TAE := TAB.same kBE
  have hkpE := kBE.get hkpB nEm
  have KAE := KAB.same kBE
  clear hcs hcsC ScC hl2 hl2D DD kC kD kE hbp htpB TAB hkpB KAB k0B kBE
  refine ⟨_, rfl, _, rfl, tp, tcs, rowss, c, rfl, htpE, TAE, lR, _, rfl, iteF ?_⟩
  refine ⟨_, rfl, _, rfl, kp, qs, _, c, rfl, hkpE, KAE, lFs, kw, _, rfl, iteF ?_⟩
  refine ⟨_, rfl, bp, bs, _, rfl, hbpE, TR, _, rfl, iteF ?_⟩
  refine ⟨_, rfl, _, rfl, _, rfl, (by show 3 ≤ sizeLine; decide), fun p hp => ?_⟩
  have kF : Kp [] HE (upd HE p (.lst [V.ref tp, V.ref kp, V.ref bp])) := Kp.new hp
  exact k p tp kp bp tcs qs bs _ (k0E.free hp) ⟨q05, kF.get htpE nEm, TAE.same kF, kF.get hkpE nEm, KAE.same kF, kF.get hbpE nEm, TR.same kF⟩ (k0E.trans kF)
def qeu (K : PySem.W.Frag) : Sp := fun vs H Q _ => ∃ (a : Addr) (ns : List Int), vs = [.ref a] ∧ Scr K H a ns ∧ ns.length ≤ 63 ∧ ∀ H', Q (.bl true) H'
theorem qff : FnScope ["_law_script", "_law_count", "_law_stocks", "_law_bound", "_law_deeds", "_law_work", "_law_k", "_law_lost", "_law_turn", "_law_more", "_law_longer", "_law_before", "_law_told", "_law_desk", "_law_request", "_law_due", "_law_there", "_law_found"] ["_law_script"] (q03 sLaw) := ⟨rfl, rfl, rfl, by decide +kernel, rfl, by decide +kernel, by decide +kernel⟩
structure Uses (C Cd : Addr) (P : Program) (w : World) (K : PySem.W.Frag) (mg : Str → Option Value) (base : Heap) : Prop where
 Dlaw_at : Df P w K mg base CX0 1 "_law_at" ["_law_script", "_law_k"] (spAt K)
 Dlaw_stocks_of : Df P w K mg base CX0 2 "_law_stocks_of" ["_law_cell", "_law_count"] q9k
 Dlaw_drawn : Df P w K mg base CX0 4 "_law_drawn" ["_law_script", "_law_count"] (qcq K)
 Dlaw_copy : Df P w K mg base CX0 1 "_law_copy" ["_law_deeds"] qc8
 Dlaw_copied : Df P w K mg base CX0 1 "_law_copied" ["_law_stocks"] q6i
 Dlaw_started : Df P w K mg base CX0 1 "_law_started" ["_law_deeds", "_law_count"] q7n
 Dlaw_state : Df P w K mg base CX0 13 "_law_state" ["_law_stocks", "_law_bound", "_law_deeds", "_law_count"] qbh
 Dlaw_so : Df P w K mg base CX0 1 "_law_so" ["_law_found", "_law_meant"] qi4
 Dlost_after : Df P w K mg base CX0 12 "lost_after" ["stocks", "bound", "deeds"] qfj
 Danswers : Df P w K mg base CX0 11 "answers" ["stocks", "bound", "deeds"] (q6y C Cd)
def qhq {f C Cd : Addr} (B : Blt mg) (U : Uses C Cd P w K mg base)
  (nd : (["_law_script", "_law_count", "_law_stocks", "_law_bound", "_law_deeds", "_law_work", "_law_k", "_law_lost", "_law_turn", "_law_more", "_law_longer", "_law_before", "_law_told", "_law_desk", "_law_request", "_law_due", "_law_there", "_law_found"] : List Str).Nodup) (cdv : Value) (A : Around) (outer : List Env) (s : Shared) (H : Hp) (E : XK) (hr : Room 13 (A.deeper (PyProof.Rows.envOfC "law" (q03 sLaw) s.heap.objs.size f cdv))) (hu : (A.deeper (PyProof.Rows.envOfC "law" (q03 sLaw) s.heap.objs.size f cdv)).units + 1 < cLine) (hu64 : (A.deeper (PyProof.Rows.envOfC "law" (q03 sLaw) s.heap.objs.size f cdv)).units + 64 < cLine) :
  PSigma fun t : TS => PSs (cxOf CX0 P w K mg base ["_law_script", "_law_count", "_law_stocks", "_law_bound", "_law_deeds", "_law_work", "_law_k", "_law_lost", "_law_turn", "_law_more", "_law_longer", "_law_before", "_law_told", "_law_desk", "_law_request", "_law_due", "_law_there", "_law_found"] "law" (q03 sLaw) f cdv A outer s H E).nox (q0c sLaw) t :=
 have Dlaw_at := U.Dlaw_at
 have Dlaw_stocks_of := U.Dlaw_stocks_of
 have Dlaw_drawn := U.Dlaw_drawn
 have Dlaw_copy := U.Dlaw_copy
 have Dlaw_copied := U.Dlaw_copied
 have Dlaw_started := U.Dlaw_started
 have Dlaw_state := U.Dlaw_state
 have Dlaw_so := U.Dlaw_so
 have Dlost_after := U.Dlost_after
 have Danswers := U.Danswers
 ⟨_, (q02 (q0r (i := 1) nd rfl (Or.inl rfl) (q0j q13 (q1i (q00 q01 (q00 q01 (q00 q01 (q00 q01 (q00 q01 (q00 q01 (q00 q01 (q00 q01 q04))))))))) (q0d q0p (q0d q0p (q0d q1b (q0z Dlaw_at (hr.mono (by decide)) q0m (q00 (pv 0) (q00 q01 q04))) q01) q01) q01) (fun _ _ => rfl)))
   (q02 (q0r (i := 2) nd rfl (Or.inl rfl) (q0z Dlaw_stocks_of (hr.mono (by decide)) q0m (q00 (q0z Dlaw_at (hr.mono (by decide)) q0m (q00 (pv 0) (q00 q01 q04))) (q00 (pv 1) q04))))
   (q02 (q0r (i := 3) nd rfl (Or.inl rfl) (q0j q13 (q1i (q00 q01 (q00 q01 (q00 q01 (q00 q01 (q00 q01 (q00 q01 q04))))))) (q0d q0p (q0d q0p (q0d q1b (q0z Dlaw_at (hr.mono (by decide)) q0m (q00 (pv 0) (q00 q01 q04))) q01) q01) q01) (fun _ _ => rfl)))
   (q02 (q0r (i := 4) nd rfl (Or.inl rfl) (q0d qfb (q8v qbe (q0z Dlaw_drawn (hr.mono (by decide)) q0m (q00 (pv 0) (q00 (pv 1) q04))) qha (q8h q01)) (q1i (q00 (q1g (q00 q0e q04)) q04))))
   (q02 (q25 PassesOwn.never rfl (q1j (q27 (q9t rfl) rfl B.list_ PyProof.Rows.boot_list (q00 (q0z Dlaw_started (hr.mono (by decide)) q0m (q00 (pv 4) (q00 (pv 1) q04))) q04))) (q10 (i := 5) nd rfl (Or.inl rfl))
   (q06 (q25 PassesOwn.never rfl (q2j rfl B.range (q00 q01 q04)) (q10 (i := 6) nd rfl (Or.inl rfl))
   (q06 (q21 (q51 PySem.F.plainAttrs_list PySem.F.slot_list_append PySem.F.type_list_append q1e (pv 4) (q00 (q1g (q00 q0e (q00 (pv 5) (q00 q0e q04)))) q04)))))))
   (q02 (q0r (i := 7) nd rfl (Or.inl rfl) (q0z Dlost_after (hr.mono (by decide)) q0m (q00 (q0z Dlaw_copied (hr.mono (by decide)) q0m (q00 (pv 2) q04)) (q00 (pv 3) (q00 (q0z Dlaw_copy (hr.mono (by decide)) q0m (q00 (pv 4) q04)) q04)))))
   (q02 (q0w (q1a (q16 (q0f q0s rfl B.isinstance PyProof.Rows.boot_isinstance (q00 (pv 7) (q00 (q0y rfl B.list_ PyProof.Rows.boot_list (v := .ty "list") rfl) q04)))))
   (q06 (q0a q1p))
   q0b)
   (q02 (q0r (i := 8) nd rfl (Or.inl rfl) (q0d q0p (q0d q0p (q0d q1b (q0z Dlaw_at (hr.mono (by decide)) q0m (q00 (pv 0) (q00 q01 q04))) q01) q01) q01))
   (q02 (q0r (i := 9) nd rfl (Or.inl rfl) (q1i q04))
   (q02 (q25 PassesOwn.never rfl (q2j rfl B.range (q00 (q0f q0k rfl B.len PySem.boot_len (q00 (pv 7) q04)) q04)) (q10 (i := 6) nd rfl (Or.inl rfl))
   (q02 (q21 (q51 PySem.F.plainAttrs_list PySem.F.slot_list_append PySem.F.type_list_append q1e (pv 9) (q00 (q1g (q00 q0e (q00 (q0d q4j (q0d q4j (q0f q0k rfl B.len PySem.boot_len (q00 (pv 7) q04)) q01) (pv 6)) q04))) q04)))
   (q06 (q0w (q0h qdz (pv 8) q01 (q0q _))
   (q06 (q21 (q51 PySem.F.plainAttrs_list PySem.F.slot_list_append PySem.F.type_list_append q1e (pv 9) (q00 (q1g (q00 q0e (q00 (pv 6) q04))) q04))))
   q0b))))
   (q02 (q0r (i := 10) nd rfl (Or.inl rfl) (q0d qfb (pv 4) (pv 9)))
   (q02 (q0r (i := 11) nd rfl (Or.inl rfl) (q0z Dlaw_state (hr.mono (by decide)) q0m (q00 (pv 2) (q00 (pv 3) (q00 (pv 4) (q00 (pv 1) q04))))))
   (q02 (q0w (PW.pt (q34 (q4k (q73 (pv 11))) (q2f (q0h (qjm hu64) (q0z Dlaw_state (hr.mono (by decide)) q0m (q00 (pv 2) (q00 (pv 3) (q00 (pv 10) (q00 (pv 1) q04))))) (pv 11) (q0q _)))))
   (q06 (q0a q1p))
   q0b)
   (q02 (q0r (i := 12) nd rfl (Or.inl rfl) (q0z Danswers (hr.mono (by decide)) q0m (q00 (q0z Dlaw_copied (hr.mono (by decide)) q0m (q00 (pv 2) q04)) (q00 (pv 3) (q00 (q0z Dlaw_copy (hr.mono (by decide)) q0m (q00 (pv 10) q04)) q04)))))
   (q02 (q0w (PW.pt (q34 (q1a (q16 (q0f q0s rfl B.isinstance PyProof.Rows.boot_isinstance (q00 (pv 12) (q00 (q0y rfl B.list_ PyProof.Rows.boot_list (v := .ty "list") rfl) q04))))) (q2f (q0h q6t (q0f q0k rfl B.len PySem.boot_len (q00 (pv 12) q04)) (q0f q0k rfl B.len PySem.boot_len (q00 (pv 10) q04)) (q0q _)))))
   (q06 (q0a q1p))
   q0b)
   (q02 (q25 PassesOwn.never rfl (q2j rfl B.range (q00 (q0f q0k rfl B.len PySem.boot_len (q00 (pv 9) q04)) q04)) (q10 (i := 6) nd rfl (Or.inl rfl))
   (q02 (qhy (q0j q13 (pv 7) (q0j q0i (q0j q13 (pv 9) (pv 6) (fun _ _ => rfl)) q01 (fun _ _ => rfl)) (fun _ _ => rfl)) (qfh rfl (q4o (q10 (i := 13) nd rfl (Or.inl rfl)) (q4o (q10 (i := 14) nd rfl (Or.inl rfl)) qbu))))
   (q02 (q0r (i := 15) nd rfl (Or.inl rfl) q0e)
   (q02 (q0w (q16 (q0z Dlaw_so (hr.mono (by decide)) q0m (q00 (q0j q0i (pv 14) q01 (fun _ _ => rfl)) (q00 q0e q04))))
   (q02 (q0r (i := 16) nd rfl (Or.inl rfl) (q6e (qit hu64) (q1g (q00 (q1g (q00 (q0j q0i (pv 14) q01 (fun _ _ => rfl)) (q00 (q0j q0i (pv 14) q01 (fun _ _ => rfl)) q04))) (q00 q0e q04))) (q0j q13 (q0j q13 (pv 11) q01 (fun _ _ => rfl)) (pv 13) (fun _ _ => rfl)) (by with_unfolding_all rfl)))
   (q06 (q0r (i := 15) nd rfl (Or.inl rfl) (q0j q13 (q1i (q00 q0e (q00 q0e q04))) (q27 qbq rfl B.int_ PyProof.Rows.boot_int (q00 (pv 16) q04)) (fun _ _ => rfl)))))
   q0b)
   (q02 (q0r (i := 17) nd rfl (Or.inl rfl) (q0j q13 (pv 12) (q0d q24 (q0f q0k rfl B.len PySem.boot_len (q00 (pv 4) q04)) (pv 6)) (fun _ _ => rfl)))
   (q06 (q0w (PW.pt (q34 (q1a (q16 (q0f q0s rfl B.isinstance PyProof.Rows.boot_isinstance (q00 (pv 17) (q00 (q0y rfl B.str PyProof.Rows.boot_str (v := .ty "str") rfl) q04))))) (q2f (q0h q6t (pv 17) (pv 15) (q0q _)))))
   (q06 (q0a q1p))
   q0b)))))))
   (q06 (q0a q1p))))))))))))))))))⟩
end
end K08
end
section
namespace K08
open PySem L2
section
variable {P : Program} {w : World} {K : PySem.W.Frag} {mg : Str → Option Value} {base : Heap}
theorem q8e {r : R2} {ta tb : TE} {σ : St} {H : Hp} {Q : Bool → Hp → Prop} (h : ta σ H fun x H1 => tb σ H1 fun y H2 => r x y H2 fun v H3 => ∃ b, v = .bl b ∧ Q b H3) : qhb (tOp r ta tb) σ H Q := h
theorem qkb {f : St → Hp → Prop} {r : VK} {b c : St → Hp → Prop} {σ : St} {H : Hp} (h : f σ H) : Ends.nx ⟨f, r, b, c⟩ σ H := h
theorem Deeds.take {H : Hp} {as : List Addr} {ds : List Deed} (h : Deeds H as ds) (n : Nat) : Deeds H (as.take n) (ds.take n) := ⟨by rw [List.length_take, List.length_take, h.len], fun i a d e1 e2 => by
 by_cases hi : i < n
 ·rw [List.getElem?_take_of_lt hi] at e1 e2
  exact h.at_ i a d e1 e2
 ·have := (List.getElem?_eq_some_iff.mp e1).1
  rw [List.length_take] at this
  omega⟩
theorem qfp (ws : List (Str × List Stp)) : (ws.flatMap go24).length = ws.length * 24 := by
 induction ws with
 | nil => rfl
 | cons v ws ih => rw [List.flatMap_cons, List.length_append, List.length_replicate, List.length_cons, ih]; omega
theorem qim {f C Cd : Addr} {fd : FuncData} (Fn : Fun K "law" "law" sLaw f fd) (B : Blt mg) (U : Uses C Cd P w K mg base) : FnOk P w K mg base CX0 14 f fd ["_law_script"] (qeu K) := by
 refine Fn.ok qff (fun vs H Q E h => ?_) (fun cdv A outer s H vs Q E hr h => ?_)
 ·obtain ⟨a, ns, rfl, _⟩ := h
  rfl
 ·obtain ⟨a, ns, rfl, hS, hn, k⟩ := h
  have nd := qff.nd
  have hu := q3r hr
  have hu64 := hr.units
  refine ⟨_, (qhq (C := C) (Cd := Cd) B U nd cdv A outer s H E hr hu hu64).2, ?_⟩
  refine ⟨(by show 8 ≤ sizeLine; decide), fun l hl => ⟨_, rfl, a, ns, 0, rfl, (hS.same (Kp.new hl)).sq, _, _, rfl, rfl, .inr ⟨by decide, by decide⟩, _, _, rfl, rfl, (by show (0 : Int) < _; decide), _, _, rfl, rfl, (by show (0 : Int) < _; decide), q4m V.int [1, 2, 3, 1, 2, 3, 1, 9] hl (Int.emod_nonneg _ (by decide)) (by show _ < (8 : Int); exact Int.emod_lt_of_pos _ (by decide)) fun cc H1 ec k1 => ?_⟩⟩
  have hc : 1 ≤ cc ∧ cc ≤ 9 := by
   have := List.mem_of_getElem? ec
   simp at this
   omega
  clear ec
  obtain ⟨c, rfl⟩ : ∃ c : Nat, cc = (c : Int) := ⟨cc.toNat, by omega⟩
  have S1 := hS.same k1
  refine ⟨_, rfl, a, ns, 1, rfl, S1.sq, _, rfl, _, c, rfl, by omega, by omega, fun sl sas Ts H2 hsl hsl2 St2 okT tbT lT k2 => ?_⟩
  have S2 := S1.same k2
  refine ⟨(by show 6 ≤ sizeLine; decide), fun l' hl' => ⟨_, rfl, a, ns, 0, rfl, (S2.same (Kp.new hl')).sq, _, _, rfl, rfl, .inr ⟨by decide, by decide⟩, _, _, rfl, rfl, (by show (0 : Int) < _; decide), _, _, rfl, rfl, (by show (0 : Int) < _; decide), q4m V.int [1, 2, 3, 1, 4, 20] hl' (Int.emod_nonneg _ (by decide)) (by show _ < (6 : Int); exact Int.emod_lt_of_pos _ (by decide)) fun b H3 eb k3 => ?_⟩⟩
  clear eb
  have S3 := S2.same k3
  refine ⟨_, rfl, _, rfl, a, ns, c, rfl, S3, hn, hc.1, hc.2, fun dl ad ds H4 hdl hdl4 D4 lD okD k4 => ⟨_, rfl, dl, _, rfl, SqL.of hdl4, fun c1 hc1 => ?_⟩⟩
  have ec : cutV (ad.map V.ref) none (some 24) = (ad.take 24).map V.ref := qhl ad 24
  rw [ec]
  have kc1 : Kp [] H4 (upd H4 c1 (.lst ((ad.take 24).map V.ref))) := Kp.new hc1
  have hc15 : (upd H4 c1 (.lst ((ad.take 24).map V.ref))) c1 = some (.lst ((ad.take 24).map V.ref)) := q05
  generalize upd H4 c1 (.lst ((ad.take 24).map V.ref)) = HA at kc1 hc15
  refine ⟨(by show 1 ≤ sizeLine; decide), fun p1 hp1 => ⟨(by show 1 ≤ sizeLine; decide), fun l1 hl1 => ?_⟩⟩
  have kB : Kp [] HA (upd (upd HA p1 (.tup [V.str "wake"])) l1 (.lst [V.ref p1])) := (Kp.new hp1).trans (Kp.new hl1)
  have hp1B : (upd (upd HA p1 (.tup [V.str "wake"])) l1 (.lst [V.ref p1])) p1 = some (.tup [V.str "wake"]) := (Kp.new (ex := []) hl1).get q05 nEm
  have hl1B : (upd (upd HA p1 (.tup [V.str "wake"])) l1 (.lst [V.ref p1])) l1 = some (.lst [V.ref p1]) := q05
  generalize upd (upd HA p1 (.tup [V.str "wake"])) l1 (.lst [V.ref p1]) = HB at kB hp1B hl1B
  have k4B := kc1.trans kB
  have lA0 : (ad.take 24).length ≤ 24 := by rw [List.length_take]; omega
  refine ⟨c1, l1, _, _, rfl, rfl, kB.get hc15 nEm, hl1B, (by rw [List.length_map]; exact Nat.le_of_lt (q0u (by show (ad.take 24).length + 1 ≤ 900; omega))), fun lg hlg => ?_⟩
  have DB : Deeds HB (ad.take 24 ++ [p1]) (ds.take 24 ++ [.wake]) := ((D4.same k4B).take 24).app (.one hp1B)
  have hlgC : (upd HB lg (.lst ((ad.take 24).map V.ref ++ [V.ref p1]))) lg = some (.lst ((ad.take 24 ++ [p1]).map V.ref)) := by rw [q05, List.map_append]; rfl
  have kBC : Kp [] HB (upd HB lg (.lst ((ad.take 24).map V.ref ++ [V.ref p1]))) := Kp.new hlg
  have kpC : Kp [] HB (del (upd HB lg (.lst ((ad.take 24).map V.ref ++ [V.ref p1]))) lg) := by rw [q1k]; exact Kp.dof (Kp.refl _ _) hlg
  generalize upd HB lg (.lst ((ad.take 24).map V.ref ++ [V.ref p1])) = HC at hlgC kpC kBC
  have okA : ∀ d ∈ ds.take 24, q2r c d := fun d hd => okD d (List.mem_of_mem_take hd)
  have lA : (ds.take 24).length ≤ 24 := by rw [List.length_take]; omega
  generalize ad.take 24 ++ [p1] = adA at DB hlgC
  generalize ds.take 24 = dsA at DB okA lA
  have S4B := ((S3.same k4).same k4B)
  have hsl4B := ((k3.trans k4).trans k4B).get hsl2 nEm
  have St4B := St2.same ((k3.trans k4).trans k4B)
  clear hS S1 S2 S3 k1 k2 k3 k4 kc1 hc15 hp1B hl1B kB hdl4 D4 lD okD hsl2 St2 hdl hc1 hp1 hl1 k4B ec lA0
  have okW : ∀ d ∈ dsA ++ [Deed.wake], q2r c d := fun d hd => by
   rw [List.mem_append] at hd
   rcases hd with z | z
   ·exact okA d z
   ·simp at z; subst z; trivial
  have lens : ∀ d ∈ dsA ++ [Deed.wake], ∀ x ss, d = .start x ss → ss.length ≤ 1000 ∧ ∀ s ∈ ss, 0 ≤ s.d ∧ s.d < c := fun d hd x ss e => by
   have := okW d hd
   rw [e] at this
   exact ⟨by have := this.2.1; omega, this.2.2.1⟩
  have hws : (runD (newR Ts b) (dsA ++ [Deed.wake])).2.works = q0l (dsA ++ [Deed.wake]) := qc6 (c := c) (q56 okT) (by simp [newR, lT]) rfl _ lens
  have l12 : ∀ v ∈ q0l (dsA ++ [Deed.wake]), v.2.length ≤ 12 := fun v hv => q5c (P := fun _ ss => ss.length ≤ 12) _ (fun d hd x ss e => by have := okW d hd; rw [e] at this; exact this.2.1) v hv
  have okN1 := (q56 (b := b) okT).run (dsA ++ [Deed.wake]) fun d hd x ss e => (lens d hd x ss e).1
  have l7 : (q0l (dsA ++ [Deed.wake])).length ≤ 7 := by
   have nd1 := okN1.nod
   rw [hws] at nd1
   have := q6m (ys := q3p c) nd1 fun x hx => by
    obtain ⟨v, hv, rfl⟩ := List.mem_map.mp hx
    exact q5c (P := fun x _ => x ∈ q3p c) _ (fun d hd x ss e => by have := okW d hd; rw [e] at this; exact this.1) v hv
   rw [List.length_map] at this
   exact this
  obtain ⟨R, eR0, hRw, okR, ⟨LL, ciR⟩, lateR⟩ := qj0 (b := b) okT tbT okA (by rw [hws]; exact l12)
  rw [hws] at eR0 hRw okR
  have lDB : (dsA ++ [Deed.wake]).length ≤ 25 := by rw [List.length_append]; simp; omega
  clear okN1 lens
  generalize hdsA : dsA ++ [Deed.wake] = dsW at *
  generalize hwsE : q0l dsW = ws at *
  refine ⟨_, rfl, _, rfl, lg, adA, dsW, c, rfl, hlgC, DB.same kBC, by omega, fun wd wa HD hwd hwdD WD kD => ⟨wd, _, rfl, hwdD, fun lp hlp => ?_⟩⟩
  rw [hwsE]
  have eL : ((wkT ws wa).map fun (q : Key × V) => kV q.1) = ws.map fun v => V.str v.1 := by unfold wkT; rw [List.map_map]; rfl
  rw [eL]
  have kE : Kp [] HD (upd HD lp (.lst (ws.map fun v => V.str v.1))) := Kp.new hlp
  have hlpE : (upd HD lp (.lst (ws.map fun v => V.str v.1))) lp = some (.lst (ws.map fun v => V.str v.1)) := q05
  generalize upd HD lp (.lst (ws.map fun v => V.str v.1)) = HE at kE hlpE
  have kCE := kD.trans kE
  have hlgE := kCE.get hlgC nEm
  have nlp : lp ≠ lg := fun z => by rw [z, kD.get hlgC nEm] at hlp; cases hlp
  have hlpE' : del HE lg lp = some (.lst (ws.map fun v => V.str v.1)) := q2l hlpE nlp
  have kBE : Kp [] HB (del HE lg) := kpC.trans (Kp.dl kCE)
  clear hwdD WD hlpE hlp hwd kD kE kpC kBC hlgC hlg
  refine ⟨lp, rfl, ⟨_, SqL.of (q1n.get hlpE' nEm)⟩, ?_⟩
  refine q1u (xs := ws.map fun v => V.str v.1) (fun i σ H2 => ∃ (v5 v6 : Option V) (ads : List Addr), σ = [some (.ref a), some (.int c), some (.ref sl), some (.int b), some (.ref lg), v5, v6, none, none, none, none, none, none, none, none, none, none, none] ∧
   Deeds (del H2 lg) ads (dsW ++ (ws.take i).flatMap go24) ∧ H2 lg = some (.lst (ads.map V.ref)) ∧ Kp [] (del HE lg) (del H2 lg)) ?_ ?_ ?_ ?_
  ·exact ⟨none, none, adA, rfl, by simpa using DB.same kBE, hlgE, Kp.refl _ _⟩
  ·rintro i σ H2 hi ⟨v5, v6, ads, rfl, D2, hl2, kp⟩
   exact SqL.of ((kp.trans q1n).get hlpE' nEm)
  ·rintro i z σ H2 hx ⟨v5, v6, ads, rfl, D2, hl2, kp⟩
   rw [List.getElem?_map] at hx
   cases ew : ws[i]? with
   | none => rw [ew] at hx; cases hx
   | some v =>
   rw [ew] at hx
   obtain rfl : V.str v.1 = z := Option.some.inj hx
   have hi : i < ws.length := (List.getElem?_eq_some_iff.mp ew).1
   have et := q2p ew
   have lfl := qfp (ws.take i)
   rw [List.length_take] at lfl
   refine ⟨_, rfl, (by decide), (by decide), ?_⟩
   refine q2i (lo := 0) (n := (24 : Int).toNat) (fun j σ H4 => ∃ (v6 : Option V) (ads : List Addr), σ = [some (.ref a), some (.int c), some (.ref sl), some (.int b), some (.ref lg), some (.str v.1), v6, none, none, none, none, none, none, none, none, none, none, none] ∧
    Deeds (del H4 lg) ads (dsW ++ (ws.take i).flatMap go24 ++ List.replicate j (.go v.1 "ok")) ∧ H4 lg = some (.lst (ads.map V.ref)) ∧ Kp [] (del HE lg) (del H4 lg)) ?_ ?_ ?_
   ·exact ⟨_, ads, rfl, by simpa using D2, hl2, kp⟩
   ·rintro j σ H4 hj ⟨v6, ads, rfl, D4, hl4, kp4⟩
    have hj' : j < 24 := hj
    have la := D4.len
    rw [List.length_append, List.length_append, List.length_replicate] at la
    refine ⟨_, rfl, .inl ⟨rfl, _, SqL.of hl4⟩, _, rfl, (by show 3 ≤ sizeLine; decide), fun t ht => ?_⟩
    obtain ⟨q1, q2, q3, q4⟩ := q47 kp4 hl4 D4 (Kp.new ht) (d := .go v.1 "ok") (a := t) (q2l q05 fun z => by rw [z, hl4] at ht; cases ht)
    refine ⟨lg, _, _, rfl, rfl, q1, (by rw [List.length_map]; exact q0u (by omega)), ?_⟩
    refine ⟨_, ads ++ [t], rfl, ?_, q2, q4⟩
    rw [List.replicate_succ', ← List.append_assoc]
    exact q3
   ·rintro σ H4 ⟨v6, ads, rfl, D4, hl4, kp4⟩
    have D4 : Deeds (del H4 lg) ads (dsW ++ (ws.take i).flatMap go24 ++ List.replicate 24 (.go v.1 "ok")) := D4
    refine ⟨_, _, ads, rfl, ?_, hl4, kp4⟩
    rw [et, List.flatMap_append, ← List.append_assoc]
    simpa [go24] using D4
  rintro σ HF ⟨v5, v6, ads, rfl, DF, hlgF, kpF⟩
  rw [List.length_map, List.take_length] at DF
  have kBF := (kBE.trans kpF).trans q1n
  have DFF := DF.same q1n
  have lfl := qfp ws
  have lads := DF.len
  rw [List.length_append] at lads okR
  have lDs : (dsW ++ ws.flatMap go24).length ≤ 193 := by rw [List.length_append]; omega
  clear DF kpF hlpE' kBE hlgE DB
  have hslF := kBF.get hsl4B nEm
  have StF := St4B.same kBF
  have SF := S4B.same kBF
  clear hsl4B St4B S4B kBF kCE
  generalize hdsB : dsW ++ ws.flatMap go24 = dsB at *
  have lRl : R.lost.length ≤ 200 := by have := okR.sl; omega
  refine ⟨_, rfl, sl, sas, Ts, rfl, hslF, StF, okT.z, fun cs cas H6 hcs hcs6 Sc6 k6 _ => ⟨_, rfl, _, rfl, lg, ads, dsB, rfl, k6.get hlgF nEm, DFF.same k6, by omega, fun l2 ad2 H7 hl2 hl27 D7 k7 => ⟨cs, l2, b, cas, Ts, ad2, dsB, 4, rfl, ⟨k7.get hcs6 nEm, Sc6.same k7, okT, hl27, D7, by omega⟩, fun lo las H8 hlo hlo8 LO k8 => ?_⟩⟩⟩
  rw [eR0] at LO
  have kF8 := (k6.trans k7).trans k8
  have hlg8 := kF8.get hlgF nEm
  have D8 := DFF.same kF8
  have hsl8 := kF8.get hslF nEm
  have St8 := StF.same kF8
  have S8 := SF.same kF8
  clear hcs hcs6 Sc6 hl2 hl27 D7 k6 k7 k8 hlo hlgF DFF hslF StF SF kF8
  have llas : las.length = R.lost.length := LO.len
  refine ⟨_, rfl, _, _, _, true, rfl, .lst hlo8, q1d (by decide +kernel), _, rfl, iteF ?_⟩
  refine ⟨_, rfl, a, ns, 0, rfl, S8.sq, _, _, rfl, rfl, .inr ⟨by decide, by decide⟩, _, _, rfl, rfl, (by show (0 : Int) < _; decide), _, _, rfl, rfl, (by show (0 : Int) < _; decide), ?_⟩
  refine ⟨(by show 0 ≤ sizeLine; decide), fun mo hmo => ?_⟩
  refine ⟨_, rfl, lo, _, rfl, .inl (SqL.of ((Kp.new (ex := []) hmo).get hlo8 nEm)), (las.length : Int), by rw [List.length_map], by omega, by omega, ?_⟩
  refine q2i (lo := 0) (n := ((las.length : Int)).toNat) (fun i σ H2 => ∃ (v6 : Option V) (v8 : Int) (ams : List Addr) (is : List Nat), σ = [some (.ref a), some (.int c), some (.ref sl), some (.int b), some (.ref lg), v5, v6, some (.ref lo), some (.int v8), some (.ref mo), none, none, none, none, none, none, none, none] ∧
   Deeds (del H2 mo) ams (is.map fun (i : Nat) => Deed.late i) ∧ (∀ i ∈ is, i < las.length) ∧ is.length ≤ 2 * i ∧ H2 mo = some (.lst (ams.map V.ref)) ∧ Kp [] H8 (del H2 mo)) ?_ ?_ ?_
  ·exact ⟨v6, _, [], [], rfl, Deeds.nil _, by simp, by simp, q05, by rw [q1k]; exact Kp.dof (Kp.refl _ _) hmo⟩
  ·rintro i σ H2 hi ⟨v6', v8, ams, is, rfl, D2, his, li, hm2, kp⟩
   have hi : i < las.length := by omega
   refine qcs fun kk ek => ?_
   obtain rfl : kk = (i : Int) := by omega
   clear ek
   have lam : ams.length = is.length := by rw [D2.len, List.length_map]
   have ev : ((las.map V.ref).length : Int) - 1 - (i : Int) = ((las.length - 1 - i : Nat) : Int) := by rw [List.length_map]; omega
   refine ⟨_, rfl, .inl ⟨rfl, _, SqL.of hm2⟩, _, rfl, lo, _, rfl, .inl (SqL.of ((kp.trans q1n).get hlo8 nEm)), _, _, rfl, rfl, _, rfl, _, _, rfl, rfl, (by show 2 ≤ sizeLine; decide), fun t ht => ?_⟩
   obtain ⟨q1, q2, q3, q4⟩ := q47 kp hm2 D2 (Kp.new (o := .tup [.str "late", .int (((las.map V.ref).length : Int) - 1 - (i : Int))]) ht) (d := .late (las.length - 1 - i : Nat)) (a := t) (q2l (by rw [q05, ev]) fun z => by rw [z, hm2] at ht; cases ht)
   refine ⟨mo, _, _, rfl, rfl, q1, (by rw [List.length_map]; exact q0u (by omega)), ?_⟩
   refine abs (fun H4' => H4' mo = some (.lst ((ams ++ [t]).map V.ref)) ∧ Deeds (del H4' mo) (ams ++ [t]) ((is ++ [las.length - 1 - i]).map fun (i : Nat) => Deed.late i) ∧ Kp [] H8 (del H4' mo)) ⟨q2, by rw [List.map_append]; exact q3, q4⟩ ?_
   clear q1 q2 q3 q4 D2 hm2 kp
   rintro H3 ⟨hm3, D3, kp3⟩
   have his3 : ∀ j ∈ is ++ [las.length - 1 - i], j < las.length := fun j hj => by
    rw [List.mem_append] at hj
    rcases hj with z | z
    ·exact his j z
    ·simp at z; omega
   refine ⟨_, rfl, _, _, rfl, rfl, _, rfl, ite2 (fun _ => ?_) (fun _ => ?_)⟩
   ·refine ⟨_, rfl, .inl ⟨rfl, _, SqL.of hm3⟩, _, rfl, (by show 2 ≤ sizeLine; decide), fun t' ht' => ?_⟩
    obtain ⟨q1, q2, q3, q4⟩ := q47 kp3 hm3 D3 (Kp.new ht') (d := .late (i : Nat)) (a := t') (q2l q05 fun z => by rw [z, hm3] at ht'; cases ht')
    refine ⟨mo, _, _, rfl, rfl, q1, (by rw [List.length_map, List.length_append]; exact q0u (by show ams.length + 1 ≤ 900; omega)), ?_⟩
    refine ⟨_, v8, ams ++ [t] ++ [t'], is ++ [las.length - 1 - i] ++ [i], rfl, by rw [List.map_append (l₂ := [i])]; exact q3, fun j hj => ?_, by simp; omega, q2, q4⟩
    rw [List.mem_append] at hj
    rcases hj with z | z
    ·exact his3 j z
    ·simp at z; omega
   ·exact ⟨_, v8, ams ++ [t], is ++ [las.length - 1 - i], rfl, D3, his3, by simp; omega, hm3, kp3⟩
  rintro σ H9 ⟨v6', v8, ams, is, rfl, D9, his, li, hmo9, kp9⟩
  have li : is.length ≤ 2 * las.length := by rw [Int.toNat_natCast] at li; exact li
  have k89 := kp9.trans q1n
  have DM := D9.same q1n
  have lam : ams.length = is.length := by rw [DM.len, List.length_map]
  have hlo9 := k89.get hlo8 nEm
  have LO9 := LO.same k89
  have hlg9 := k89.get hlg8 nEm
  have DB9 := D8.same k89
  have hsl9 := k89.get hsl8 nEm
  have St9 := St8.same k89
  clear D9 kp9 k89 hlo8 LO hlg8 D8 hsl8 St8 S8 hmo
  have hlate := q7r is fun i hi => lateR i (by rw [← llas]; exact his i hi)
  have erun : runD (newR Ts b) (dsB ++ is.map fun (i : Nat) => Deed.late i) = ((runD (newR Ts b) dsB).1 ++ is.map (fun i => An.str (q6w R i)), R) := by
   rw [q3u, eR0, hlate]
  refine ⟨_, rfl, _, rfl, lg, mo, _, _, rfl, rfl, hlg9, hmo9, (by rw [List.length_map, List.length_map]; exact Nat.le_of_lt (q0u (by omega))), fun lq hlq => ?_⟩
  have kA : Kp [] H9 (upd H9 lq (.lst (ads.map V.ref ++ ams.map V.ref))) := Kp.new hlq
  have hlqA : (upd H9 lq (.lst (ads.map V.ref ++ ams.map V.ref))) lq = some (.lst ((ads ++ ams).map V.ref)) := by rw [q05, List.map_append]
  generalize upd H9 lq (.lst (ads.map V.ref ++ ams.map V.ref)) = HA2 at kA hlqA
  have DL : Deeds HA2 (ads ++ ams) (dsB ++ is.map fun (i : Nat) => Deed.late i) := (DB9.same kA).app (DM.same kA)
  have lL : (dsB ++ is.map fun (i : Nat) => Deed.late i).length ≤ 600 := by rw [List.length_append, List.length_map]; omega
  have hloA := kA.get hlo9 nEm
  have LOA := LO9.same kA
  have hlgA := kA.get hlg9 nEm
  have DBA := DB9.same kA
  have DMA := DM.same kA
  have hmoA := kA.get hmo9 nEm
  have hslA := kA.get hsl9 nEm
  have StA := St9.same kA
  clear kA hlq hlo9 LO9 hlg9 DB9 DM hmo9 hsl9 St9
  obtain ⟨rowss, eR, hrows⟩ := q9j (c := c) (p := fun i => 0 ≤ i) (Ds := R.desks.map (·.1)) fun T hT => by
   obtain ⟨p, hp, rfl⟩ := List.mem_map.mp hT
   obtain ⟨i, ei⟩ := List.mem_iff_getElem?.mp hp
   exact ciR.tb i p.1 p.2 ei
  have dlN : R.desks.length = c := by rw [← eR0, (q2e _ _).1]; simp [newR, lT]
  have lR : rowss.length = c := by have := congrArg List.length eR; rw [List.length_map, List.length_map, dlN] at this; exact this.symm
  have kwF : ∀ F ∈ R.desks.map (·.2), q3e F := fun F hF => by
   obtain ⟨p, hp, rfl⟩ := List.mem_map.mp hF
   obtain ⟨i, ei⟩ := List.mem_iff_getElem?.mp hp
   intro kv hv
   obtain ⟨x, ss, _, j, s, y, _, _, e, _⟩ := ciR.ks i p.1 p.2 ei kv hv
   exact ⟨x, j, y, e⟩
  have h64 : ∀ rows ∈ rowss, rows.length < 64 := fun rows hr => (hrows rows hr).2.2
  refine ⟨_, rfl, _, rfl, _, rfl, _, rfl, sl, lg, b, sas, Ts, ads, dsB, c, rowss, rfl, hslA, StA, okT, hlgA, DBA, by omega, by rw [eR0]; exact eR, h64, lR, by rw [eR0]; exact kwF, fun b0 tp kp bp tcs qs bs HS hb0 SA kS => ?_⟩
  rw [eR0] at SA
  refine ⟨_, rfl, _, rfl, q1o (by intro z; cases z) ?_⟩
  refine q8e ?_
  refine ⟨_, rfl, _, rfl, _, rfl, _, rfl, sl, lq, b, sas, Ts, ads ++ ams, dsB ++ is.map (fun (i : Nat) => Deed.late i), c, rowss, rfl, kS.get hslA nEm, StA.same kS, okT, kS.get hlqA nEm, DL.same kS, by omega, by rw [erun]; exact eR, h64, lR, by rw [erun]; exact kwF, fun b1 tp1 kp1 bp1 tcs1 qs1 bs1 HT hb1 SB kT => ?_⟩
  rw [erun] at SB
  have SA2 := SA.same kT
  refine ⟨_, rfl, b1, b0, _, _, (fun _ => true), rfl, rfl, SqL.of SB.hp, SqL.of SA2.hp, rfl, eqSt kwF SB SA2, _, rfl, ?_⟩
  refine iteF ?_
  have kAT := kS.trans kT
  have hloT := kAT.get hloA nEm
  have LOT := LOA.same kAT
  have hlgT := kAT.get hlgA nEm
  have hmoT := kAT.get hmoA nEm
  have DMT := DMA.same kAT
  have hlqT := kAT.get hlqA nEm
  have DLT := DL.same kAT
  have hslT := kAT.get hslA nEm
  have StT := StA.same kAT
  clear SA SB hb0 hb1 kS kT kAT hloA LOA hlgA hmoA DMA hlqA DL hslA StA DBA
  refine ⟨_, rfl, sl, sas, Ts, rfl, hslT, StT, okT.z, fun cs cas H6 hcs hcs6 Sc6 k6 _ => ⟨_, rfl, _, rfl, lq, ads ++ ams, _, rfl, k6.get hlqT nEm, DLT.same k6, by omega, fun l2 ad2 H7 hl2 hl27 D7 k7 => ⟨cs, l2, b, cas, Ts, ad2, _, 4, rfl, ⟨k7.get hcs6 nEm, Sc6.same k7, okT, hl27, D7, by omega⟩, fun tl us HU htl htlU AV k8 => ?_⟩⟩⟩
  rw [erun] at AV
  have kTU := (k6.trans k7).trans k8
  have hloU := kTU.get hloT nEm
  have LOU := LOT.same kTU
  have hlgU := kTU.get hlgT nEm
  have hmoU := kTU.get hmoT nEm
  have DMU := DMT.same kTU
  have hlqU := kTU.get hlqT nEm
  have SU := SA2.same kTU
  clear hcs hcs6 Sc6 hl2 hl27 D7 k6 k7 k8 htl hloT LOT hlgT hmoT DMT hlqT DLT hslT StT SA2 kTU
  have l1 : (runD (newR Ts b) dsB).1.length = dsB.length := q8r _ _
  have lus : us.length = dsB.length + is.length := by rw [AV.len, List.length_append, l1, List.length_map]
  have lads' : ads.length = dsB.length := by rw [← hdsB, List.length_append]; exact lads
  refine ⟨_, rfl, _, _, _, true, rfl, .lst htlU, q1d (by decide +kernel), _, rfl, iteF ?_⟩
  refine ⟨_, rfl, tl, _, rfl, .inl (SqL.of htlU), _, rfl, lq, _, rfl, .inl (SqL.of hlqU), rfl, _, rfl, q6f (by rw [List.length_map, List.length_append, lads', lam, lus]) ?_⟩
  refine ⟨_, rfl, mo, _, rfl, .inl (SqL.of hmoU), (ams.length : Int), by rw [List.length_map], by omega, by omega, ?_⟩
  refine q2i (lo := 0) (n := ((ams.length : Int)).toNat) (fun i σ H2 => ∃ (v6 v13 v14 v15 v16 v17 : Option V), σ = [some (.ref a), some (.int c), some (.ref sl), some (.int b), some (.ref lg), v5, v6, some (.ref lo), some (.int v8), some (.ref mo), some (.ref lq), some (.ref b0), some (.ref tl), v13, v14, v15, v16, v17] ∧ Kp [] HU H2) ⟨_, none, none, none, none, none, rfl, Kp.refl _ _⟩ ?_ ?_
  ·rintro i σ H2 hi ⟨v6'', v13, v14, v15, v16, v17, rfl, kp2⟩
   have hi : i < ams.length := by omega
   refine qcs fun kk ek => ?_
   obtain rfl : kk = (i : Int) := by omega
   clear ek
   have hii : i < is.length := by omega
   have ea : ams[i]? = some ams[i] := List.getElem?_eq_getElem hi
   have ei : is[i]? = some is[i] := List.getElem?_eq_getElem hii
   have hd : HU ams[i] = some (.tup [.str "late", .int ((is[i] : Nat) : Int)]) := DMU.at_ i _ (.late (is[i] : Nat)) ea (by rw [List.getElem?_map, ei]; rfl)
   have hil := his _ (List.getElem_mem hii)
   have hx1 : dsB.length + i < us.length := by omega
   have eus : us[dsB.length + i]? = some us[dsB.length + i] := List.getElem?_eq_getElem hx1
   have hus : us[dsB.length + i] = .str (q6w R is[i]) := by
    have := AV.at_ (dsB.length + i) _ (.str (q6w R is[i])) eus (by rw [List.getElem?_append_right (by omega), l1, Nat.add_sub_cancel_left, List.getElem?_map, ei]; rfl)
    exact this
   rw [hus] at eus
   clear hus
   generalize ams[i] = am at ea hd
   generalize is[i] = ix at ei hd hil eus
   have hl2 : ix < R.lost.length := by rw [← llas]; exact hil
   have el : R.lost[ix]? = some R.lost[ix] := List.getElem?_eq_getElem hl2
   have ela : las[ix]? = some las[ix] := List.getElem?_eq_getElem hil
   obtain ⟨rb, hla, hrb⟩ := LOU.at_ ix _ _ ela el
   have edue : q6w R ix = dueS R R.lost[ix] := by unfold q6w; rw [el]
   have hld := okR.ld _ (List.getElem_mem hl2)
   rw [edue] at eus
   clear edue
   generalize R.lost[ix] = p at el hla hrb hld eus
   generalize las[ix] = la at ela hla
   obtain ⟨d, q⟩ := p
   dsimp only at hla hrb hld
   refine ⟨_, rfl, _, rfl, _, rfl, mo, _, _, _, rfl, rfl, SqL.of (kp2.get hmoU nEm), q07 (j := i) (by rw [List.getElem?_map, ea]; rfl), am, _, _, _, rfl, rfl, SqT.of (kp2.get hd nEm), q07 (j := 1) rfl, lo, _, _, _, rfl, rfl, SqL.of (kp2.get hloU nEm), q07 (j := ix) (by rw [List.getElem?_map, ela]; rfl), la, _, rfl, SqT.of (kp2.get hla nEm), rfl, _, _, rfl, _, _, rfl, rfl, ?_⟩
   refine qkb ?_
   refine qdr (fun σ' H' => ∃ (v16 : Option V), σ' = [some (.ref a), some (.int c), some (.ref sl), some (.int b), some (.ref lg), v5, some (.int (i : Int)), some (.ref lo), some (.int v8), some (.ref mo), some (.ref lq), some (.ref b0), some (.ref tl), some (.int d), some (.ref rb), some (.str (dueS R (d, q))), v16, v17] ∧ Kp [] HU H') ?_ ?_
   ·rintro σ' H' ⟨v16, rfl, kp'⟩
    refine ⟨_, rfl, _, rfl, lg, _, rfl, .inl (SqL.of (kp'.get hlgU nEm)), _, rfl, _, _, rfl, rfl, tl, _, _, _, rfl, rfl, SqL.of (kp'.get htlU nEm), (by rw [List.length_map, lads']; exact q07 (j := dsB.length + i) eus), ?_⟩
    refine ⟨_, rfl, _, _, _, true, rfl, .str _, q1d (by decide +kernel), _, rfl, iteF ?_⟩
    exact ⟨_, rfl, _, rfl, rfl, _, rfl, q6f rfl ⟨_, _, _, _, _, _, rfl, kp'⟩⟩
   ·intro key
    have hrb2 := kp2.get hrb nEm
    refine ⟨_, rfl, rb, _, _, _, rfl, rfl, SqT.of hrb2, q07 (j := 0) rfl, q.word, "do", rfl, _, rfl, ?_⟩
    by_cases hw : q.word = "do"
    ·refine iteD hw ?_
     refine ⟨_, rfl, rb, _, _, _, rfl, rfl, SqT.of hrb2, q07 (j := 1) rfl, _, rfl, rb, _, _, _, rfl, rfl, SqT.of hrb2, q07 (j := 2) rfl, (by show 2 ≤ sizeLine; decide), fun t0 ht0 => ⟨(by show 2 ≤ sizeLine; decide), fun t1 ht1 => ?_⟩⟩
     have kt : Kp [] H2 (upd (upd H2 t0 (.tup [V.str q.w, V.int q.st])) t1 (.tup [V.ref t0, V.str "did"])) := (Kp.new ht0).trans (Kp.new ht1)
     have ht0' : (upd (upd H2 t0 (.tup [V.str q.w, V.int q.st])) t1 (.tup [V.ref t0, V.str "did"])) t0 = some (.tup [V.str q.w, V.int q.st]) := (Kp.new (ex := []) ht1).get q05 nEm
     have ht1' : (upd (upd H2 t0 (.tup [V.str q.w, V.int q.st])) t1 (.tup [V.ref t0, V.str "did"])) t1 = some (.tup [V.ref t0, V.str "did"]) := q05
     generalize upd (upd H2 t0 (.tup [V.str q.w, V.int q.st])) t1 (.tup [V.ref t0, V.str "did"]) = H3 at kt ht0' ht1'
     have SU3 := SU.same (kp2.trans kt)
     obtain ⟨dn, rfl⟩ : ∃ dn : Nat, d = (dn : Int) := ⟨d.toNat, by omega⟩
     have hdn : dn < R.desks.length := by omega
     have eD : R.desks[dn]? = some (R.desks[dn].1, R.desks[dn].2) := List.getElem?_eq_getElem hdn
     have eFs : (R.desks.map (·.2))[dn]? = some R.desks[dn].2 := by rw [List.getElem?_map, eD]; rfl
     have hx2 : dn < qs.length := by rw [SU3.Ks.1, List.length_map]; exact hdn
     have eqs : qs[dn]? = some qs[dn] := List.getElem?_eq_getElem hx2
     obtain ⟨kbs, hq', KR⟩ := SU3.Ks.2 dn _ _ eqs eFs
     have nkk := ciR.nk dn _ _ eD
     have kwk := kwF _ (List.mem_of_getElem? eFs)
     have edu : dueS R ((dn : Int), q) = (if valV R.desks[dn].2 (kk q.w q.st) = some (.str "did") then ("did" : Str) else ("no" : Str)) := by
      unfold dueS
      rw [if_pos (show ((dn : Int), q).2.word = "do" from hw)]
      show (if ((R.desks[((dn : Nat) : Int).toNat]?).bind fun (q' : Tb × Fb) => valV q'.2 (kk q.w q.st)) = some (.str "did") then _ else _) = _
      rw [Int.toNat_natCast, eD]
      rfl
     rw [edu] at key
     refine ⟨_, rfl, b0, _, _, _, rfl, rfl, SqL.of SU3.hp, q07 (j := 1) rfl, _, rfl, kp, _, _, _, rfl, rfl, SqL.of SU3.hk, q07 (j := dn) (by rw [List.getElem?_map, eqs]; rfl), ?_⟩
     refine qi1 hq' KR kwk nkk ht1' ht0' ?_
     by_cases hv : valV R.desks[dn].2 (kk q.w q.st) = some (.str "did")
     ·rw [if_pos hv] at key
      rw [decide_eq_true hv]
      refine ⟨(by show 2 ≤ sizeLine; decide), fun l2 hl2 => ⟨_, rfl, .inr ⟨_, rfl, l2, _, _, _, rfl, rfl, SqL.of q05, q07 (j := 1) rfl, ?_⟩⟩⟩
      exact key _ _ ⟨_, rfl, (kp2.trans kt).trans (Kp.new hl2)⟩
     ·rw [if_neg hv] at key
      rw [decide_eq_false hv]
      refine ⟨(by show 2 ≤ sizeLine; decide), fun l2 hl2 => ⟨_, rfl, .inr ⟨_, rfl, l2, _, _, _, rfl, rfl, SqL.of q05, q07 (j := 0) rfl, ?_⟩⟩⟩
      exact key _ _ ⟨_, rfl, (kp2.trans kt).trans (Kp.new hl2)⟩
    ·refine q1o hw ?_
     have edu : dueS R (d, q) = "undid" := by unfold dueS; rw [if_neg (show ¬ (d, q).2.word = "do" from hw)]
     rw [edu] at key
     exact key _ _ ⟨_, rfl, kp2⟩
  ·rintro σ H2 ⟨v6'', v13, v14, v15, v16, v17, rfl, _⟩
   exact k H2
end
end K08
end
namespace K08
open PySem L2
theorem all_mk {l : PySem.W.OpenLaw} {w : World} {K : PySem.W.Frag} {h : Heap} {mg : Str → Option Value} {fa y5 y6 y2 y1 y29 y30 y31 y32 y8 y9 y10 y11 y12 y13 y14 y15 y7 y16 y17 y18 y19 y20 y21 y22 y23 y24 y25 y26 y27 y33 y28 y34 y35 y36 y37 y38 y39 y40 y41 y42 y43 y44 y45 y46 y47 y48 y49 y50 y51 y52 y53 y54 y55 y56 y57 y111 : Addr} (X : K.In h) (G : h.Ns mainGlobals mg) (hfa : mg "law" = some (.ref fa))
  {od0 an0 od1 an1 od2 an2 od3 an3 od4 an4 od5 an5 od6 an6 od7 an7 od8 an8 od9 an9 od10 an10 od11 an11 od12 an12 od13 an13 od14 an14 od15 an15 od16 an16 od17 an17 od18 an18 od19 an19 od20 an20 od21 an21 od22 an22 od23 an23 od24 an24 od25 an25 od26 an26 od27 an27 od28 an28 od29 an29 od30 an30 od31 an31 od32 an32 od33 an33 od34 an34 od35 an35 od36 an36 od37 an37 od38 an38 od39 an39 od40 an40 od41 an41 od42 an42 od43 an43 od44 an44 od45 an45 od46 an46 od47 an47 od48 an48 od49 an49 od50 an50 od51 an51 : Option Addr} {sl0 sl1 sl2 sl3 sl4 sl5 sl6 sl7 sl8 sl9 sl10 sl11 sl12 sl13 sl14 sl15 sl16 sl17 sl18 sl19 sl20 sl21 sl22 sl23 sl24 sl25 sl26 sl27 sl28 sl29 sl30 sl31 sl32 sl33 sl34 sl35 sl36 sl37 sl38 sl39 sl40 sl41 sl42 sl43 sl44 sl45 sl46 sl47 sl48 sl49 sl50 sl51 : Array (Option Value)} {oc0 kV0 dc0 pm0 cd0 ct0 oc1 kV1 dc1 pm1 cd1 ct1 oc2 kV2 dc2 pm2 cd2 ct2 oc3 kV3 dc3 pm3 cd3 ct3 oc4 kV4 dc4 pm4 cd4 ct4 oc5 kV5 dc5 pm5 cd5 ct5 oc6 kV6 dc6 pm6 cd6 ct6 oc7 kV7 dc7 pm7 cd7 ct7 oc8 kV8 dc8 pm8 cd8 ct8 oc9 kV9 dc9 pm9 cd9 ct9 oc10 kV10 dc10 pm10 cd10 ct10 oc11 kV11 dc11 pm11 cd11 ct11 oc12 kV12 dc12 pm12 cd12 ct12 oc13 kV13 dc13 pm13 cd13 ct13 oc14 kV14 dc14 pm14 cd14 ct14 oc15 kV15 dc15 pm15 cd15 ct15 oc16 kV16 dc16 pm16 cd16 ct16 oc17 kV17 dc17 pm17 cd17 ct17 oc18 kV18 dc18 pm18 cd18 ct18 oc19 kV19 dc19 pm19 cd19 ct19 oc20 kV20 dc20 pm20 cd20 ct20 oc21 kV21 dc21 pm21 cd21 ct21 oc22 kV22 dc22 pm22 cd22 ct22 oc23 kV23 dc23 pm23 cd23 ct23 oc24 kV24 dc24 pm24 cd24 ct24 oc25 kV25 dc25 pm25 cd25 ct25 oc26 kV26 dc26 pm26 cd26 ct26 oc27 kV27 dc27 pm27 cd27 ct27 oc28 kV28 dc28 pm28 cd28 ct28 oc29 kV29 dc29 pm29 cd29 ct29 oc30 kV30 dc30 pm30 cd30 ct30 oc31 kV31 dc31 pm31 cd31 ct31 oc32 kV32 dc32 pm32 cd32 ct32 oc33 kV33 dc33 pm33 cd33 ct33 oc34 kV34 dc34 pm34 cd34 ct34 oc35 kV35 dc35 pm35 cd35 ct35 oc36 kV36 dc36 pm36 cd36 ct36 oc37 kV37 dc37 pm37 cd37 ct37 oc38 kV38 dc38 pm38 cd38 ct38 oc39 kV39 dc39 pm39 cd39 ct39 oc40 kV40 dc40 pm40 cd40 ct40 oc41 kV41 dc41 pm41 cd41 ct41 oc42 kV42 dc42 pm42 cd42 ct42 oc43 kV43 dc43 pm43 cd43 ct43 oc44 kV44 dc44 pm44 cd44 ct44 oc45 kV45 dc45 pm45 cd45 ct45 oc46 kV46 dc46 pm46 cd46 ct46 oc47 kV47 dc47 pm47 cd47 ct47 oc48 kV48 dc48 pm48 cd48 ct48 oc49 kV49 dc49 pm49 cd49 ct49 oc50 kV50 dc50 pm50 cd50 ct50 oc51 kV51 dc51 pm51 cd51 ct51 : Value}
  (y112 : PySem.W.nsIn K mainGlobals "NoDesk" = some (some (.ref y5)))
  (y113 : PySem.W.nsIn K mainGlobals "NoWork" = some (some (.ref y6)))
  (x_hn : PySem.W.specialIn K (.builtin "object.__class__") "__get__" = some (some (.builtin "getset_descriptor.__get__")))
  (x_tk : PySem.W.takesIn K (.builtin "object.__class__") = some true)
  (y114 : PySem.W.findIn K (.ref y5) "__getattribute__" = some (some (.builtin "BaseException.__getattribute__")))
  (y115 : PySem.W.findIn K (.ref y5) "__getattr__" = some none)
  (y116 : PySem.W.findIn K (.ref y5) "__class__" = some (some (.builtin "object.__class__")))
  (y117 : PySem.W.mroIn K y5 (.type "object") = some true)
  (y118 : PySem.W.mroIn K y5 (.type "BaseException") = some true)
  (y119 : PySem.W.typeIn K (.ref y5) = some (.type "type"))
  (y120 : PySem.W.excIn K y5 [.type "ValueError", .type "Exception", .type "BaseException", .type "object"] "ValueError.__new__" = true)
  (y121 : PySem.W.findIn K (.ref y6) "__getattribute__" = some (some (.builtin "BaseException.__getattribute__")))
  (y122 : PySem.W.findIn K (.ref y6) "__getattr__" = some none)
  (y123 : PySem.W.findIn K (.ref y6) "__class__" = some (some (.builtin "object.__class__")))
  (y124 : PySem.W.mroIn K y6 (.type "object") = some true)
  (y125 : PySem.W.mroIn K y6 (.type "BaseException") = some true)
  (y126 : PySem.W.typeIn K (.ref y6) = some (.type "type"))
  (y127 : PySem.W.excIn K y6 [.type "ValueError", .type "Exception", .type "BaseException", .type "object"] "ValueError.__new__" = true)
  (m_D : PySem.W.mroIn K y5 (.ref y5) = some true)
  (m_WD : PySem.W.mroIn K y6 (.ref y5) = some false)
  (m_W : PySem.W.mroIn K y6 (.ref y6) = some true)
  (y128 : PySem.W.nsIn K mainGlobals "Desk" = some (some (.ref y2)))
  (y129 : PySem.W.plainGet K y2 Str.empty = true)
  (y130 : PySem.W.hasDictIn K y2 = true)
  (y131 : PySem.W.plainOver K y2 = true)
  (y132 : PySem.W.findIn K (.ref y2) "__setattr__" = some (some (.builtin "object.__setattr__")))
  (y133 : PySem.W.makesIn K y2 = true)
  (y134 : PySem.W.keepIn K (.ref y2) = true)
  (y135 : PySem.W.findIn K (.ref y2) "stock" = some none)
  (y136 : PySem.W.findIn K (.ref y2) "fates" = some none)
  (y137 : PySem.W.nsIn K mainGlobals "Runner" = some (some (.ref y1)))
  (y138 : PySem.W.plainGet K y1 Str.empty = true)
  (y139 : PySem.W.hasDictIn K y1 = true)
  (y140 : PySem.W.plainOver K y1 = true)
  (y141 : PySem.W.findIn K (.ref y1) "__setattr__" = some (some (.builtin "object.__setattr__")))
  (y142 : PySem.W.makesIn K y1 = true)
  (y143 : PySem.W.keepIn K (.ref y1) = true)
  (y144 : PySem.W.findIn K (.ref y1) "desks" = some none)
  (y145 : PySem.W.findIn K (.ref y1) "bound" = some none)
  (y146 : PySem.W.findIn K (.ref y1) "up" = some none)
  (y147 : PySem.W.findIn K (.ref y1) "works" = some none)
  (y148 : PySem.W.findIn K (.ref y1) "trails" = some none)
  (y149 : PySem.W.findIn K (.ref y1) "tries" = some none)
  (y150 : PySem.W.findIn K (.ref y1) "lost" = some none)
  (y151 : PySem.W.nsIn K mainGlobals "do_or_done" = some (some (.ref y29)))
  (y152 : K.lookup y29 = some ⟨oc0, od0, .func (PySem.W.fnOf "do_or_done" "do_or_done" (q0g sDo) (q0c sDo) (q03 sDo) .none kV0 dc0 pm0 an0 cd0 ct0), sl0⟩)
  (y153 : PySem.W.codeIn K cd0 "do_or_done" = true)
  (y60 : PySem.W.keepIn K (.ref y29) = true)
  (y154 : PySem.W.nsIn K mainGlobals "undo_or_undone" = some (some (.ref y30)))
  (y155 : K.lookup y30 = some ⟨oc1, od1, .func (PySem.W.fnOf "undo_or_undone" "undo_or_undone" (q0g sUn) (q0c sUn) (q03 sUn) .none kV1 dc1 pm1 an1 cd1 ct1), sl1⟩)
  (y156 : PySem.W.codeIn K cd1 "undo_or_undone" = true)
  (y61 : PySem.W.keepIn K (.ref y30) = true)
  (y157 : PySem.W.nsIn K mainGlobals "next_behind" = some (some (.ref y31)))
  (y158 : K.lookup y31 = some ⟨oc2, od2, .func (PySem.W.fnOf "next_behind" "next_behind" (q0g sBeh) (q0c sBeh) (q03 sBeh) .none kV2 dc2 pm2 an2 cd2 ct2), sl2⟩)
  (y159 : PySem.W.codeIn K cd2 "next_behind" = true)
  (y62 : PySem.W.keepIn K (.ref y31) = true)
  (y160 : PySem.W.nsIn K mainGlobals "next_of" = some (some (.ref y32)))
  (y161 : K.lookup y32 = some ⟨oc3, od3, .func (PySem.W.fnOf "next_of" "next_of" (q0g sNx) (q0c sNx) (q03 sNx) .none kV3 dc3 pm3 an3 cd3 ct3), sl3⟩)
  (y162 : PySem.W.codeIn K cd3 "next_of" = true)
  (y63 : PySem.W.keepIn K (.ref y32) = true)
  (y163 : PySem.W.findIn K (.ref y2) "__init__" = some (some (.ref y8)))
  (y164 : PySem.W.isFn K (.ref y8) = true)
  (y165 : K.lookup y8 = some ⟨oc4, od4, .func (PySem.W.fnOf "__init__" "Desk.__init__" (q0g qa5) (q0c qa5) (q03 qa5) .none kV4 dc4 pm4 an4 cd4 ct4), sl4⟩)
  (y166 : PySem.W.codeIn K cd4 "Desk.__init__" = true)
  (y167 : PySem.W.keepIn K (.ref y8) = true)
  (y168 : PySem.W.findIn K (.ref y2) "has" = some (some (.ref y9)))
  (y169 : PySem.W.isFn K (.ref y9) = true)
  (y170 : K.lookup y9 = some ⟨oc5, od5, .func (PySem.W.fnOf "has" "Desk.has" (q0g sHas) (q0c sHas) (q03 sHas) .none kV5 dc5 pm5 an5 cd5 ct5), sl5⟩)
  (y171 : PySem.W.codeIn K cd5 "Desk.has" = true)
  (y64 : PySem.W.keepIn K (.ref y9) = true)
  (y172 : PySem.W.findIn K (.ref y2) "take" = some (some (.ref y10)))
  (y173 : PySem.W.isFn K (.ref y10) = true)
  (y174 : K.lookup y10 = some ⟨oc6, od6, .func (PySem.W.fnOf "take" "Desk.take" (q0g qal) (q0c qal) (q03 qal) .none kV6 dc6 pm6 an6 cd6 ct6), sl6⟩)
  (y175 : PySem.W.codeIn K cd6 "Desk.take" = true)
  (y65 : PySem.W.keepIn K (.ref y10) = true)
  (y176 : PySem.W.findIn K (.ref y2) "do" = some (some (.ref y11)))
  (y177 : PySem.W.isFn K (.ref y11) = true)
  (y178 : K.lookup y11 = some ⟨oc7, od7, .func (PySem.W.fnOf "do" "Desk.do" (q0g q5v) (q0c q5v) (q03 q5v) .none kV7 dc7 pm7 an7 cd7 ct7), sl7⟩)
  (y179 : PySem.W.codeIn K cd7 "Desk.do" = true)
  (y66 : PySem.W.keepIn K (.ref y11) = true)
  (y180 : PySem.W.findIn K (.ref y2) "put" = some (some (.ref y12)))
  (y181 : PySem.W.isFn K (.ref y12) = true)
  (y182 : K.lookup y12 = some ⟨oc8, od8, .func (PySem.W.fnOf "put" "Desk.put" (q0g sPut) (q0c sPut) (q03 sPut) .none kV8 dc8 pm8 an8 cd8 ct8), sl8⟩)
  (y183 : PySem.W.codeIn K cd8 "Desk.put" = true)
  (y67 : PySem.W.keepIn K (.ref y12) = true)
  (y184 : PySem.W.findIn K (.ref y2) "undo" = some (some (.ref y13)))
  (y185 : PySem.W.isFn K (.ref y13) = true)
  (y186 : K.lookup y13 = some ⟨oc9, od9, .func (PySem.W.fnOf "undo" "Desk.undo" (q0g qav) (q0c qav) (q03 qav) .none kV9 dc9 pm9 an9 cd9 ct9), sl9⟩)
  (y187 : PySem.W.codeIn K cd9 "Desk.undo" = true)
  (y68 : PySem.W.keepIn K (.ref y13) = true)
  (y188 : PySem.W.findIn K (.ref y2) "told" = some (some (.ref y14)))
  (y189 : PySem.W.isFn K (.ref y14) = true)
  (y190 : K.lookup y14 = some ⟨oc10, od10, .func (PySem.W.fnOf "told" "Desk.told" (q0g qau) (q0c qau) (q03 qau) .none kV10 dc10 pm10 an10 cd10 ct10), sl10⟩)
  (y191 : PySem.W.codeIn K cd10 "Desk.told" = true)
  (y69 : PySem.W.keepIn K (.ref y14) = true)
  (y192 : PySem.W.findIn K (.ref y1) "__init__" = some (some (.ref y15)))
  (y193 : PySem.W.isFn K (.ref y15) = true)
  (y194 : K.lookup y15 = some ⟨oc11, od11, .func (PySem.W.fnOf "__init__" "Runner.__init__" (q0g qar) (q0c qar) (q03 qar) .none kV11 dc11 pm11 an11 cd11 ct11), sl11⟩)
  (y195 : PySem.W.codeIn K cd11 "Runner.__init__" = true)
  (y196 : PySem.W.keepIn K (.ref y15) = true)
  (y70 : PySem.W.findIn K (.ref y1) "desk_at" = some (some (.ref y7)))
  (y71 : PySem.W.isFn K (.ref y7) = true)
  (y197 : K.lookup y7 = some ⟨oc12, od12, .func (PySem.W.fnOf "desk_at" "Runner.desk_at" (q0g q3l) (q0c q3l) (q03 q3l) .none kV12 dc12 pm12 an12 cd12 ct12), sl12⟩)
  (y198 : PySem.W.codeIn K cd12 "Runner.desk_at" = true)
  (y58 : PySem.W.keepIn K (.ref y7) = true)
  (y199 : PySem.W.findIn K (.ref y1) "arrive" = some (some (.ref y16)))
  (y200 : PySem.W.isFn K (.ref y16) = true)
  (y201 : K.lookup y16 = some ⟨oc13, od13, .func (PySem.W.fnOf "arrive" "Runner.arrive" (q0g q45) (q0c q45) (q03 q45) .none kV13 dc13 pm13 an13 cd13 ct13), sl13⟩)
  (y202 : PySem.W.codeIn K cd13 "Runner.arrive" = true)
  (y72 : PySem.W.keepIn K (.ref y16) = true)
  (y203 : PySem.W.findIn K (.ref y1) "request_for" = some (some (.ref y17)))
  (y204 : PySem.W.isFn K (.ref y17) = true)
  (y205 : K.lookup y17 = some ⟨oc14, od14, .func (PySem.W.fnOf "request_for" "Runner.request_for" (q0g rReq) (q0c rReq) (q03 rReq) .none kV14 dc14 pm14 an14 cd14 ct14), sl14⟩)
  (y206 : PySem.W.codeIn K cd14 "Runner.request_for" = true)
  (y73 : PySem.W.keepIn K (.ref y17) = true)
  (y207 : PySem.W.findIn K (.ref y1) "send" = some (some (.ref y18)))
  (y208 : PySem.W.isFn K (.ref y18) = true)
  (y209 : K.lookup y18 = some ⟨oc15, od15, .func (PySem.W.fnOf "send" "Runner.send" (q0g qak) (q0c qak) (q03 qak) .none kV15 dc15 pm15 an15 cd15 ct15), sl15⟩)
  (y210 : PySem.W.codeIn K cd15 "Runner.send" = true)
  (y74 : PySem.W.keepIn K (.ref y18) = true)
  (y211 : PySem.W.findIn K (.ref y1) "unheard" = some (some (.ref y19)))
  (y212 : PySem.W.isFn K (.ref y19) = true)
  (y213 : K.lookup y19 = some ⟨oc16, od16, .func (PySem.W.fnOf "unheard" "Runner.unheard" (q0g q3g) (q0c q3g) (q03 q3g) .none kV16 dc16 pm16 an16 cd16 ct16), sl16⟩)
  (y214 : PySem.W.codeIn K cd16 "Runner.unheard" = true)
  (y75 : PySem.W.keepIn K (.ref y19) = true)
  (y215 : PySem.W.findIn K (.ref y1) "written" = some (some (.ref y20)))
  (y216 : PySem.W.isFn K (.ref y20) = true)
  (y217 : K.lookup y20 = some ⟨oc17, od17, .func (PySem.W.fnOf "written" "Runner.written" (q0g q3f) (q0c q3f) (q03 q3f) .none kV17 dc17 pm17 an17 cd17 ct17), sl17⟩)
  (y218 : PySem.W.codeIn K cd17 "Runner.written" = true)
  (y76 : PySem.W.keepIn K (.ref y20) = true)
  (y219 : PySem.W.findIn K (.ref y1) "attempt" = some (some (.ref y21)))
  (y220 : PySem.W.isFn K (.ref y21) = true)
  (y221 : K.lookup y21 = some ⟨oc18, od18, .func (PySem.W.fnOf "attempt" "Runner.attempt" (q0g q2n) (q0c q2n) (q03 q2n) .none kV18 dc18 pm18 an18 cd18 ct18), sl18⟩)
  (y222 : PySem.W.codeIn K cd18 "Runner.attempt" = true)
  (y77 : PySem.W.keepIn K (.ref y21) = true)
  (y223 : PySem.W.findIn K (.ref y1) "go" = some (some (.ref y22)))
  (y224 : PySem.W.isFn K (.ref y22) = true)
  (y225 : K.lookup y22 = some ⟨oc19, od19, .func (PySem.W.fnOf "go" "Runner.go" (q0g rGo) (q0c rGo) (q03 rGo) .none kV19 dc19 pm19 an19 cd19 ct19), sl19⟩)
  (y226 : PySem.W.codeIn K cd19 "Runner.go" = true)
  (y78 : PySem.W.keepIn K (.ref y22) = true)
  (y227 : PySem.W.findIn K (.ref y1) "late" = some (some (.ref y23)))
  (y228 : PySem.W.isFn K (.ref y23) = true)
  (y229 : K.lookup y23 = some ⟨oc20, od20, .func (PySem.W.fnOf "late" "Runner.late" (q0g qa7) (q0c qa7) (q03 qa7) .none kV20 dc20 pm20 an20 cd20 ct20), sl20⟩)
  (y230 : PySem.W.codeIn K cd20 "Runner.late" = true)
  (y79 : PySem.W.keepIn K (.ref y23) = true)
  (y231 : PySem.W.findIn K (.ref y1) "fill" = some (some (.ref y24)))
  (y232 : PySem.W.isFn K (.ref y24) = true)
  (y233 : K.lookup y24 = some ⟨oc21, od21, .func (PySem.W.fnOf "fill" "Runner.fill" (q0g q8q) (q0c q8q) (q03 q8q) .none kV21 dc21 pm21 an21 cd21 ct21), sl21⟩)
  (y234 : PySem.W.codeIn K cd21 "Runner.fill" = true)
  (y80 : PySem.W.keepIn K (.ref y24) = true)
  (y235 : PySem.W.findIn K (.ref y1) "stop" = some (some (.ref y25)))
  (y236 : PySem.W.isFn K (.ref y25) = true)
  (y237 : K.lookup y25 = some ⟨oc22, od22, .func (PySem.W.fnOf "stop" "Runner.stop" (q0g qap) (q0c qap) (q03 qap) .none kV22 dc22 pm22 an22 cd22 ct22), sl22⟩)
  (y238 : PySem.W.codeIn K cd22 "Runner.stop" = true)
  (y81 : PySem.W.keepIn K (.ref y25) = true)
  (y239 : PySem.W.findIn K (.ref y1) "wake" = some (some (.ref y26)))
  (y240 : PySem.W.isFn K (.ref y26) = true)
  (y241 : K.lookup y26 = some ⟨oc23, od23, .func (PySem.W.fnOf "wake" "Runner.wake" (q0g q9w) (q0c q9w) (q03 q9w) .none kV23 dc23 pm23 an23 cd23 ct23), sl23⟩)
  (y242 : PySem.W.codeIn K cd23 "Runner.wake" = true)
  (y82 : PySem.W.keepIn K (.ref y26) = true)
  (y243 : PySem.W.findIn K (.ref y1) "start" = some (some (.ref y27)))
  (y244 : PySem.W.isFn K (.ref y27) = true)
  (y245 : K.lookup y27 = some ⟨oc24, od24, .func (PySem.W.fnOf "start" "Runner.start" (q0g q4s) (q0c q4s) (q03 q4s) .none kV24 dc24 pm24 an24 cd24 ct24), sl24⟩)
  (y246 : PySem.W.codeIn K cd24 "Runner.start" = true)
  (y83 : PySem.W.keepIn K (.ref y27) = true)
  (y247 : PySem.W.nsIn K mainGlobals "done" = some (some (.ref y33)))
  (y248 : K.lookup y33 = some ⟨oc25, od25, .func (PySem.W.fnOf "done" "done" (q0g q8b) (q0c q8b) (q03 q8b) .none kV25 dc25 pm25 an25 cd25 ct25), sl25⟩)
  (y249 : PySem.W.codeIn K cd25 "done" = true)
  (y84 : PySem.W.keepIn K (.ref y33) = true)
  (y85 : PySem.W.nsIn K mainGlobals "answer" = some (some (.ref y28)))
  (y250 : K.lookup y28 = some ⟨oc26, od26, .func (PySem.W.fnOf "answer" "answer" (q0g q3q) (q0c q3q) (q03 q3q) .none kV26 dc26 pm26 an26 cd26 ct26), sl26⟩)
  (y251 : PySem.W.codeIn K cd26 "answer" = true)
  (y59 : PySem.W.keepIn K (.ref y28) = true)
  (y252 : PySem.W.nsIn K mainGlobals "answers" = some (some (.ref y34)))
  (y253 : K.lookup y34 = some ⟨oc27, od27, .func (PySem.W.fnOf "answers" "answers" (q0g q3c) (q0c q3c) (q03 q3c) .none kV27 dc27 pm27 an27 cd27 ct27), sl27⟩)
  (y254 : PySem.W.codeIn K cd27 "answers" = true)
  (y86 : PySem.W.keepIn K (.ref y34) = true)
  (y255 : PySem.W.nsIn K mainGlobals "runner_after" = some (some (.ref y35)))
  (y256 : K.lookup y35 = some ⟨oc28, od28, .func (PySem.W.fnOf "runner_after" "runner_after" (q0g q68) (q0c q68) (q03 q68) .none kV28 dc28 pm28 an28 cd28 ct28), sl28⟩)
  (y257 : PySem.W.codeIn K cd28 "runner_after" = true)
  (y87 : PySem.W.keepIn K (.ref y35) = true)
  (y258 : PySem.W.nsIn K mainGlobals "keys_after" = some (some (.ref y36)))
  (y259 : K.lookup y36 = some ⟨oc29, od29, .func (PySem.W.fnOf "keys_after" "keys_after" (q0g q9s) (q0c q9s) (q03 q9s) .none kV29 dc29 pm29 an29 cd29 ct29), sl29⟩)
  (y260 : PySem.W.codeIn K cd29 "keys_after" = true)
  (y88 : PySem.W.keepIn K (.ref y36) = true)
  (y261 : PySem.W.nsIn K mainGlobals "trails_after" = some (some (.ref y37)))
  (y262 : K.lookup y37 = some ⟨oc30, od30, .func (PySem.W.fnOf "trails_after" "trails_after" (q0g q4c) (q0c q4c) (q03 q4c) .none kV30 dc30 pm30 an30 cd30 ct30), sl30⟩)
  (y263 : PySem.W.codeIn K cd30 "trails_after" = true)
  (y89 : PySem.W.keepIn K (.ref y37) = true)
  (y264 : PySem.W.nsIn K mainGlobals "things_at" = some (some (.ref y38)))
  (y265 : K.lookup y38 = some ⟨oc31, od31, .func (PySem.W.fnOf "things_at" "things_at" (q0g qa0) (q0c qa0) (q03 qa0) .none kV31 dc31 pm31 an31 cd31 ct31), sl31⟩)
  (y266 : PySem.W.codeIn K cd31 "things_at" = true)
  (y90 : PySem.W.keepIn K (.ref y38) = true)
  (y267 : PySem.W.nsIn K mainGlobals "things_after" = some (some (.ref y39)))
  (y268 : K.lookup y39 = some ⟨oc32, od32, .func (PySem.W.fnOf "things_after" "things_after" (q0g q41) (q0c q41) (q03 q41) .none kV32 dc32 pm32 an32 cd32 ct32), sl32⟩)
  (y269 : PySem.W.codeIn K cd32 "things_after" = true)
  (y91 : PySem.W.keepIn K (.ref y39) = true)
  (y270 : PySem.W.nsIn K mainGlobals "lost_after" = some (some (.ref y40)))
  (y271 : K.lookup y40 = some ⟨oc33, od33, .func (PySem.W.fnOf "lost_after" "lost_after" (q0g q5l) (q0c q5l) (q03 q5l) .none kV33 dc33 pm33 an33 cd33 ct33), sl33⟩)
  (y272 : PySem.W.codeIn K cd33 "lost_after" = true)
  (y92 : PySem.W.keepIn K (.ref y40) = true)
  (y273 : PySem.W.nsIn K mainGlobals "_law_so" = some (some (.ref y41)))
  (y274 : K.lookup y41 = some ⟨oc34, od34, .func (PySem.W.fnOf "_law_so" "_law_so" (q0g sSo) (q0c sSo) (q03 sSo) .none kV34 dc34 pm34 an34 cd34 ct34), sl34⟩)
  (y275 : PySem.W.codeIn K cd34 "_law_so" = true)
  (y93 : PySem.W.keepIn K (.ref y41) = true)
  (y276 : PySem.W.nsIn K mainGlobals "_law_at" = some (some (.ref y42)))
  (y277 : K.lookup y42 = some ⟨oc35, od35, .func (PySem.W.fnOf "_law_at" "_law_at" (q0g sAt) (q0c sAt) (q03 sAt) .none kV35 dc35 pm35 an35 cd35 ct35), sl35⟩)
  (y278 : PySem.W.codeIn K cd35 "_law_at" = true)
  (y94 : PySem.W.keepIn K (.ref y42) = true)
  (y279 : PySem.W.nsIn K mainGlobals "_law_work_called" = some (some (.ref y43)))
  (y280 : K.lookup y43 = some ⟨oc36, od36, .func (PySem.W.fnOf "_law_work_called" "_law_work_called" (q0g qaa) (q0c qaa) (q03 qaa) .none kV36 dc36 pm36 an36 cd36 ct36), sl36⟩)
  (y281 : PySem.W.codeIn K cd36 "_law_work_called" = true)
  (y95 : PySem.W.keepIn K (.ref y43) = true)
  (y282 : PySem.W.nsIn K mainGlobals "_law_thing_called" = some (some (.ref y44)))
  (y283 : K.lookup y44 = some ⟨oc37, od37, .func (PySem.W.fnOf "_law_thing_called" "_law_thing_called" (q0g q61) (q0c q61) (q03 q61) .none kV37 dc37 pm37 an37 cd37 ct37), sl37⟩)
  (y284 : PySem.W.codeIn K cd37 "_law_thing_called" = true)
  (y96 : PySem.W.keepIn K (.ref y44) = true)
  (y285 : PySem.W.nsIn K mainGlobals "_law_stocks_of" = some (some (.ref y45)))
  (y286 : K.lookup y45 = some ⟨oc38, od38, .func (PySem.W.fnOf "_law_stocks_of" "_law_stocks_of" (q0g q40) (q0c q40) (q03 q40) .none kV38 dc38 pm38 an38 cd38 ct38), sl38⟩)
  (y287 : PySem.W.codeIn K cd38 "_law_stocks_of" = true)
  (y97 : PySem.W.keepIn K (.ref y45) = true)
  (y288 : PySem.W.nsIn K mainGlobals "_law_steps_of" = some (some (.ref y46)))
  (y289 : K.lookup y46 = some ⟨oc39, od39, .func (PySem.W.fnOf "_law_steps_of" "_law_steps_of" (q0g q5s) (q0c q5s) (q03 q5s) .none kV39 dc39 pm39 an39 cd39 ct39), sl39⟩)
  (y290 : PySem.W.codeIn K cd39 "_law_steps_of" = true)
  (y98 : PySem.W.keepIn K (.ref y46) = true)
  (y291 : PySem.W.nsIn K mainGlobals "_law_deed_of" = some (some (.ref y47)))
  (y292 : K.lookup y47 = some ⟨oc40, od40, .func (PySem.W.fnOf "_law_deed_of" "_law_deed_of" (q0g q7e) (q0c q7e) (q03 q7e) .none kV40 dc40 pm40 an40 cd40 ct40), sl40⟩)
  (y293 : PySem.W.codeIn K cd40 "_law_deed_of" = true)
  (y99 : PySem.W.keepIn K (.ref y47) = true)
  (y294 : PySem.W.nsIn K mainGlobals "_law_drawn" = some (some (.ref y48)))
  (y295 : K.lookup y48 = some ⟨oc41, od41, .func (PySem.W.fnOf "_law_drawn" "_law_drawn" (q0g q5x) (q0c q5x) (q03 q5x) .none kV41 dc41 pm41 an41 cd41 ct41), sl41⟩)
  (y296 : PySem.W.codeIn K cd41 "_law_drawn" = true)
  (y100 : PySem.W.keepIn K (.ref y48) = true)
  (y297 : PySem.W.nsIn K mainGlobals "_law_copy" = some (some (.ref y49)))
  (y298 : K.lookup y49 = some ⟨oc42, od42, .func (PySem.W.fnOf "_law_copy" "_law_copy" (q0g q9z) (q0c q9z) (q03 q9z) .none kV42 dc42 pm42 an42 cd42 ct42), sl42⟩)
  (y299 : PySem.W.codeIn K cd42 "_law_copy" = true)
  (y101 : PySem.W.keepIn K (.ref y49) = true)
  (y300 : PySem.W.nsIn K mainGlobals "_law_copied" = some (some (.ref y50)))
  (y301 : K.lookup y50 = some ⟨oc43, od43, .func (PySem.W.fnOf "_law_copied" "_law_copied" (q0g q4e) (q0c q4e) (q03 q4e) .none kV43 dc43 pm43 an43 cd43 ct43), sl43⟩)
  (y302 : PySem.W.codeIn K cd43 "_law_copied" = true)
  (y102 : PySem.W.keepIn K (.ref y50) = true)
  (y303 : PySem.W.nsIn K mainGlobals "_law_whole" = some (some (.ref y51)))
  (y304 : K.lookup y51 = some ⟨oc44, od44, .func (PySem.W.fnOf "_law_whole" "_law_whole" (q0g q5y) (q0c q5y) (q03 q5y) .none kV44 dc44 pm44 an44 cd44 ct44), sl44⟩)
  (y305 : PySem.W.codeIn K cd44 "_law_whole" = true)
  (y103 : PySem.W.keepIn K (.ref y51) = true)
  (y306 : PySem.W.nsIn K mainGlobals "_law_is_entry" = some (some (.ref y52)))
  (y307 : K.lookup y52 = some ⟨oc45, od45, .func (PySem.W.fnOf "_law_is_entry" "_law_is_entry" (q0g qa4) (q0c qa4) (q03 qa4) .none kV45 dc45 pm45 an45 cd45 ct45), sl45⟩)
  (y308 : PySem.W.codeIn K cd45 "_law_is_entry" = true)
  (y104 : PySem.W.keepIn K (.ref y52) = true)
  (y309 : PySem.W.nsIn K mainGlobals "_law_are_trails" = some (some (.ref y53)))
  (y310 : K.lookup y53 = some ⟨oc46, od46, .func (PySem.W.fnOf "_law_are_trails" "_law_are_trails" (q0g q5n) (q0c q5n) (q03 q5n) .none kV46 dc46 pm46 an46 cd46 ct46), sl46⟩)
  (y311 : PySem.W.codeIn K cd46 "_law_are_trails" = true)
  (y105 : PySem.W.keepIn K (.ref y53) = true)
  (y312 : PySem.W.nsIn K mainGlobals "_law_are_things" = some (some (.ref y54)))
  (y313 : K.lookup y54 = some ⟨oc47, od47, .func (PySem.W.fnOf "_law_are_things" "_law_are_things" (q0g q5m) (q0c q5m) (q03 q5m) .none kV47 dc47 pm47 an47 cd47 ct47), sl47⟩)
  (y314 : PySem.W.codeIn K cd47 "_law_are_things" = true)
  (y106 : PySem.W.keepIn K (.ref y54) = true)
  (y315 : PySem.W.nsIn K mainGlobals "_law_are_keys" = some (some (.ref y55)))
  (y316 : K.lookup y55 = some ⟨oc48, od48, .func (PySem.W.fnOf "_law_are_keys" "_law_are_keys" (q0g qab) (q0c qab) (q03 qab) .none kV48 dc48 pm48 an48 cd48 ct48), sl48⟩)
  (y317 : PySem.W.codeIn K cd48 "_law_are_keys" = true)
  (y107 : PySem.W.keepIn K (.ref y55) = true)
  (y318 : PySem.W.nsIn K mainGlobals "_law_started" = some (some (.ref y56)))
  (y319 : K.lookup y56 = some ⟨oc49, od49, .func (PySem.W.fnOf "_law_started" "_law_started" (q0g q3d) (q0c q3d) (q03 q3d) .none kV49 dc49 pm49 an49 cd49 ct49), sl49⟩)
  (y320 : PySem.W.codeIn K cd49 "_law_started" = true)
  (y108 : PySem.W.keepIn K (.ref y56) = true)
  (y321 : PySem.W.nsIn K mainGlobals "_law_state" = some (some (.ref y57)))
  (y322 : K.lookup y57 = some ⟨oc50, od50, .func (PySem.W.fnOf "_law_state" "_law_state" (q0g q5w) (q0c q5w) (q03 q5w) .none kV50 dc50 pm50 an50 cd50 ct50), sl50⟩)
  (y323 : PySem.W.codeIn K cd50 "_law_state" = true)
  (y109 : PySem.W.keepIn K (.ref y57) = true)
  (y324 : PySem.W.nsIn K mainGlobals "law" = some (some (.ref y111)))
  (y325 : K.lookup y111 = some ⟨oc51, od51, .func (PySem.W.fnOf "law" "law" (q0g sLaw) (q0c sLaw) (q03 sLaw) .none kV51 dc51 pm51 an51 cd51 ct51), sl51⟩)
  (y326 : PySem.W.codeIn K cd51 "law" = true)
  (y327 : PySem.W.keepIn K (.ref y111) = true)
  (y328 : PySem.W.nsIn K mainGlobals "len" = some none)
  (y329 : PySem.W.nsIn K mainGlobals "isinstance" = some none)
  (y330 : PySem.W.nsIn K mainGlobals "dict" = some none)
  (y331 : PySem.W.nsIn K mainGlobals "list" = some none)
  (y332 : PySem.W.nsIn K mainGlobals "tuple" = some none)
  (y333 : PySem.W.nsIn K mainGlobals "int" = some none)
  (y334 : PySem.W.nsIn K mainGlobals "bool" = some none)
  (y335 : PySem.W.nsIn K mainGlobals "str" = some none)
  (y336 : PySem.W.nsIn K mainGlobals "range" = some none)
  (y337 : PySem.W.nsIn K mainGlobals "enumerate" = some none)
  (y338 : PySem.W.nsIn K mainGlobals "min" = some none)
  (y339 : PySem.W.nsIn K mainGlobals "max" = some none)
  (y340 : PySem.W.nsIn K mainGlobals "sorted" = some none)
  (y341 : PySem.W.nsIn K mainGlobals "set" = some none)
  (y342 : PySem.W.nsIn K mainGlobals "sum" = some none)
  (y343 : PySem.W.nsIn K mainGlobals "abs" = some none)
  (y344 : PySem.W.nsIn K mainGlobals "zip" = some none)
  (y345 : PySem.W.nsIn K mainGlobals "any" = some none)
  (y346 : PySem.W.nsIn K mainGlobals "all" = some none)
  (y347 : PySem.W.nsIn K mainGlobals "reversed" = some none) :
  ∃ fd : FuncData, (∀ (s : Shared) (v : Value), BindsTo s fd ⟨[v], []⟩ [("_law_script", v)]) ∧ ∀ base : Heap, K.In base → base.Ns mainGlobals mg → FnOk l.prog w K mg base CX0 14 fa fd ["_law_script"] (qeu K) := by
 have e := hfa.symm.trans (PySem.W.mg_of X G y324)
 cases e
 have B : Blt mg := ⟨PySem.W.mg_none_of X G y328, PySem.W.mg_none_of X G y329, PySem.W.mg_none_of X G y330, PySem.W.mg_none_of X G y331, PySem.W.mg_none_of X G y332, PySem.W.mg_none_of X G y333, PySem.W.mg_none_of X G y334, PySem.W.mg_none_of X G y335, PySem.W.mg_none_of X G y336, PySem.W.mg_none_of X G y337, PySem.W.mg_none_of X G y338, PySem.W.mg_none_of X G y339, PySem.W.mg_none_of X G y340, PySem.W.mg_none_of X G y341, PySem.W.mg_none_of X G y342, PySem.W.mg_none_of X G y343, PySem.W.mg_none_of X G y344, PySem.W.mg_none_of X G y345, PySem.W.mg_none_of X G y346, PySem.W.mg_none_of X G y347⟩
 have y4 : Txt K mg y2 := ⟨⟨y129, y130, y131, y132⟩, y135, y136⟩
 have y3 : TxtR K mg y1 := ⟨⟨y138, y139, y140, y141⟩, y144, y145, y146, y147, y148, y149, y150⟩
 have y350 := q0o (st := sDo) y152 y153 y60
 have y420 := y350.binds (ps := ["many", "step"]) fun _ _ _ _ _ _ us hl => match us, hl with | [_, _], _ => rfl
 have y351 := q0o (st := sUn) y155 y156 y61
 have y421 := y351.binds (ps := ["step"]) fun _ _ _ _ _ _ us hl => match us, hl with | [_], _ => rfl
 have y352 := q0o (st := sBeh) y158 y159 y62
 have y422 := y352.binds (ps := ["many", "word", "step"]) fun _ _ _ _ _ _ us hl => match us, hl with | [_, _, _], _ => rfl
 have y353 := q0o (st := sNx) y161 y162 y63
 have y423 := y353.binds (ps := ["many", "trail"]) fun _ _ _ _ _ _ us hl => match us, hl with | [_, _], _ => rfl
 have y354 := q0o (st := qa5) y165 y166 y167
 have y424 := y354.binds (ps := ["self", "things"]) fun _ _ _ _ _ _ us hl => match us, hl with | [_, _], _ => rfl
 have y355 := q0o (st := sHas) y170 y171 y64
 have y425 := y355.binds (ps := ["self", "thing"]) fun _ _ _ _ _ _ us hl => match us, hl with | [_, _], _ => rfl
 have y356 := q0o (st := qal) y174 y175 y65
 have y426 := y356.binds (ps := ["self", "thing", "many"]) fun _ _ _ _ _ _ us hl => match us, hl with | [_, _, _], _ => rfl
 have y357 := q0o (st := q5v) y178 y179 y66
 have y427 := y357.binds (ps := ["self", "key", "thing", "many"]) fun _ _ _ _ _ _ us hl => match us, hl with | [_, _, _, _], _ => rfl
 have y358 := q0o (st := sPut) y182 y183 y67
 have y428 := y358.binds (ps := ["self", "thing", "many"]) fun _ _ _ _ _ _ us hl => match us, hl with | [_, _, _], _ => rfl
 have y359 := q0o (st := qav) y186 y187 y68
 have y429 := y359.binds (ps := ["self", "key", "thing", "many"]) fun _ _ _ _ _ _ us hl => match us, hl with | [_, _, _, _], _ => rfl
 have y360 := q0o (st := qau) y190 y191 y69
 have y430 := y360.binds (ps := ["self", "request"]) fun _ _ _ _ _ _ us hl => match us, hl with | [_, _], _ => rfl
 have y361 := q0o (st := qar) y194 y195 y196
 have y431 := y361.binds (ps := ["self", "stocks", "bound"]) fun _ _ _ _ _ _ us hl => match us, hl with | [_, _, _], _ => rfl
 have y362 := q0o (st := q3l) y197 y198 y58
 have y363 := y362.binds (ps := ["self", "number"]) fun _ _ _ _ _ _ us hl => match us, hl with | [_, _], _ => rfl
 have y364 := q0o (st := q45) y201 y202 y72
 have y432 := y364.binds (ps := ["self", "sent"]) fun _ _ _ _ _ _ us hl => match us, hl with | [_, _], _ => rfl
 have y365 := q0o (st := rReq) y205 y206 y73
 have y433 := y365.binds (ps := ["self", "name", "coming"]) fun _ _ _ _ _ _ us hl => match us, hl with | [_, _, _], _ => rfl
 have y366 := q0o (st := qak) y209 y210 y74
 have y434 := y366.binds (ps := ["self", "sent", "luck"]) fun _ _ _ _ _ _ us hl => match us, hl with | [_, _, _], _ => rfl
 have y367 := q0o (st := q3g) y213 y214 y75
 have y435 := y367.binds (ps := ["self", "name", "coming"]) fun _ _ _ _ _ _ us hl => match us, hl with | [_, _, _], _ => rfl
 have y368 := q0o (st := q3f) y217 y218 y76
 have y436 := y368.binds (ps := ["self", "name", "entry"]) fun _ _ _ _ _ _ us hl => match us, hl with | [_, _, _], _ => rfl
 have y369 := q0o (st := q2n) y221 y222 y77
 have y437 := y369.binds (ps := ["self", "name", "coming", "luck"]) fun _ _ _ _ _ _ us hl => match us, hl with | [_, _, _, _], _ => rfl
 have y370 := q0o (st := rGo) y225 y226 y78
 have y438 := y370.binds (ps := ["self", "name", "luck"]) fun _ _ _ _ _ _ us hl => match us, hl with | [_, _, _], _ => rfl
 have y371 := q0o (st := qa7) y229 y230 y79
 have y439 := y371.binds (ps := ["self", "which"]) fun _ _ _ _ _ _ us hl => match us, hl with | [_, _], _ => rfl
 have y372 := q0o (st := q8q) y233 y234 y80
 have y440 := y372.binds (ps := ["self", "number", "thing", "many"]) fun _ _ _ _ _ _ us hl => match us, hl with | [_, _, _, _], _ => rfl
 have y373 := q0o (st := qap) y237 y238 y81
 have y441 := y373.binds (ps := ["self"]) fun _ _ _ _ _ _ us hl => match us, hl with | [_], _ => rfl
 have y374 := q0o (st := q9w) y241 y242 y82
 have y442 := y374.binds (ps := ["self"]) fun _ _ _ _ _ _ us hl => match us, hl with | [_], _ => rfl
 have y375 := q0o (st := q4s) y245 y246 y83
 have y443 := y375.binds (ps := ["self", "name", "steps"]) fun _ _ _ _ _ _ us hl => match us, hl with | [_, _, _], _ => rfl
 have y376 := q0o (st := q8b) y248 y249 y84
 have y444 := y376.binds (ps := ["runner", "deed"]) fun _ _ _ _ _ _ us hl => match us, hl with | [_, _], _ => rfl
 have y377 := q0o (st := q3q) y250 y251 y59
 have y378 := y377.binds (ps := ["runner", "deed"]) fun _ _ _ _ _ _ us hl => match us, hl with | [_, _], _ => rfl
 have y379 := q0o (st := q3c) y253 y254 y86
 have y445 := y379.binds (ps := ["stocks", "bound", "deeds"]) fun _ _ _ _ _ _ us hl => match us, hl with | [_, _, _], _ => rfl
 have y380 := q0o (st := q68) y256 y257 y87
 have y446 := y380.binds (ps := ["stocks", "bound", "deeds"]) fun _ _ _ _ _ _ us hl => match us, hl with | [_, _, _], _ => rfl
 have y381 := q0o (st := q9s) y259 y260 y88
 have y447 := y381.binds (ps := ["stocks", "bound", "deeds"]) fun _ _ _ _ _ _ us hl => match us, hl with | [_, _, _], _ => rfl
 have y382 := q0o (st := q4c) y262 y263 y89
 have y448 := y382.binds (ps := ["stocks", "bound", "deeds"]) fun _ _ _ _ _ _ us hl => match us, hl with | [_, _, _], _ => rfl
 have y383 := q0o (st := qa0) y265 y266 y90
 have y449 := y383.binds (ps := ["desk"]) fun _ _ _ _ _ _ us hl => match us, hl with | [_], _ => rfl
 have y384 := q0o (st := q41) y268 y269 y91
 have y450 := y384.binds (ps := ["stocks", "bound", "deeds"]) fun _ _ _ _ _ _ us hl => match us, hl with | [_, _, _], _ => rfl
 have y385 := q0o (st := q5l) y271 y272 y92
 have y451 := y385.binds (ps := ["stocks", "bound", "deeds"]) fun _ _ _ _ _ _ us hl => match us, hl with | [_, _, _], _ => rfl
 have y386 := q0o (st := sSo) y274 y275 y93
 have y452 := y386.binds (ps := ["_law_found", "_law_meant"]) fun _ _ _ _ _ _ us hl => match us, hl with | [_, _], _ => rfl
 have y387 := q0o (st := sAt) y277 y278 y94
 have y453 := y387.binds (ps := ["_law_script", "_law_k"]) fun _ _ _ _ _ _ us hl => match us, hl with | [_, _], _ => rfl
 have y388 := q0o (st := qaa) y280 y281 y95
 have y454 := y388.binds (ps := ["_law_j", "_law_count"]) fun _ _ _ _ _ _ us hl => match us, hl with | [_, _], _ => rfl
 have y389 := q0o (st := q61) y283 y284 y96
 have y455 := y389.binds (ps := ["_law_j", "_law_count"]) fun _ _ _ _ _ _ us hl => match us, hl with | [_, _], _ => rfl
 have y390 := q0o (st := q40) y286 y287 y97
 have y456 := y390.binds (ps := ["_law_cell", "_law_count"]) fun _ _ _ _ _ _ us hl => match us, hl with | [_, _], _ => rfl
 have y391 := q0o (st := q5s) y289 y290 y98
 have y457 := y391.binds (ps := ["_law_cell", "_law_count"]) fun _ _ _ _ _ _ us hl => match us, hl with | [_, _], _ => rfl
 have y392 := q0o (st := q7e) y292 y293 y99
 have y458 := y392.binds (ps := ["_law_cell", "_law_k", "_law_count"]) fun _ _ _ _ _ _ us hl => match us, hl with | [_, _, _], _ => rfl
 have y393 := q0o (st := q5x) y295 y296 y100
 have y459 := y393.binds (ps := ["_law_script", "_law_count"]) fun _ _ _ _ _ _ us hl => match us, hl with | [_, _], _ => rfl
 have y394 := q0o (st := q9z) y298 y299 y101
 have y460 := y394.binds (ps := ["_law_deeds"]) fun _ _ _ _ _ _ us hl => match us, hl with | [_], _ => rfl
 have y395 := q0o (st := q4e) y301 y302 y102
 have y461 := y395.binds (ps := ["_law_stocks"]) fun _ _ _ _ _ _ us hl => match us, hl with | [_], _ => rfl
 have y396 := q0o (st := q5y) y304 y305 y103
 have y462 := y396.binds (ps := ["_law_found"]) fun _ _ _ _ _ _ us hl => match us, hl with | [_], _ => rfl
 have y397 := q0o (st := qa4) y307 y308 y104
 have y463 := y397.binds (ps := ["_law_found"]) fun _ _ _ _ _ _ us hl => match us, hl with | [_], _ => rfl
 have y398 := q0o (st := q5n) y310 y311 y105
 have y464 := y398.binds (ps := ["_law_found"]) fun _ _ _ _ _ _ us hl => match us, hl with | [_], _ => rfl
 have y399 := q0o (st := q5m) y313 y314 y106
 have y465 := y399.binds (ps := ["_law_found", "_law_count"]) fun _ _ _ _ _ _ us hl => match us, hl with | [_, _], _ => rfl
 have y400 := q0o (st := qab) y316 y317 y107
 have y466 := y400.binds (ps := ["_law_found", "_law_count"]) fun _ _ _ _ _ _ us hl => match us, hl with | [_, _], _ => rfl
 have y401 := q0o (st := q3d) y319 y320 y108
 have y467 := y401.binds (ps := ["_law_deeds", "_law_count"]) fun _ _ _ _ _ _ us hl => match us, hl with | [_, _], _ => rfl
 have y402 := q0o (st := q5w) y322 y323 y109
 have y468 := y402.binds (ps := ["_law_stocks", "_law_bound", "_law_deeds", "_law_count"]) fun _ _ _ _ _ _ us hl => match us, hl with | [_, _, _, _], _ => rfl
 have y403 := q0o (st := sLaw) y325 y326 y327
 have y557 := y403.binds (ps := ["_law_script"]) fun _ _ _ _ _ _ us hl => match us, hl with | [_], _ => rfl
 refine ⟨PySem.W.fnOf "law" "law" (q0g sLaw) (q0c sLaw) (q03 sLaw) .none kV51 dc51 pm51 an51 cd51 ct51, fun s v => .of_eq rfl, fun base kb nb => ?_⟩
 have y469 : XCls K y5 := ⟨y114, y115, y116, x_hn, x_tk, y117, y118, y119⟩
 have y404 := PySem.W.mg_of X G y112
 have y470 : XCls K y6 := ⟨y121, y122, y123, x_hn, x_tk, y124, y125, y126⟩
 have y405 := PySem.W.mg_of X G y113
 have y471 : FnOk l.prog w K mg base CX0 _ y29 _ _ _ := (qkh y350)
 have y406 : Df l.prog w K mg base CX0 _ "do_or_done" _ _ := ⟨⟨y29, _, PySem.W.mg_of X G y151, y60, y420, y471⟩⟩
 have y472 : FnOk l.prog w K mg base CX0 _ y30 _ _ _ := (qjy y351)
 have y473 : Df l.prog w K mg base CX0 _ "undo_or_undone" _ _ := ⟨⟨y30, _, PySem.W.mg_of X G y154, y61, y421, y472⟩⟩
 have y474 : FnOk l.prog w K mg base CX0 _ y31 _ _ _ := (qhx y352 y406 y473)
 have y475 : Df l.prog w K mg base CX0 _ "next_behind" _ _ := ⟨⟨y31, _, PySem.W.mg_of X G y157, y62, y422, y474⟩⟩
 have y476 : FnOk l.prog w K mg base CX0 _ y32 _ _ _ := (qka y353 y406 y475)
 have y477 : Df l.prog w K mg base CX0 _ "next_of" _ _ := ⟨⟨y32, _, PySem.W.mg_of X G y160, y63, y423, y476⟩⟩
 have y478 : FnOk l.prog w K mg base CX0 _ y8 _ _ _ := (qhf y354 y4 B)
 have y479 : Cd l.prog w K mg base CX0 y2 _ "Desk" _ _ := ⟨⟨y8, _, PySem.W.mg_of X G y128, ⟨y133, y163, y164, y134⟩, y424, y478⟩⟩
 have y480 : FnOk l.prog w K mg base CX0 _ y9 _ _ _ := (qic y355 y4)
 have y407 : Md l.prog w K mg base CX0 y2 _ "has" _ _ := ⟨y4.cl, ⟨y9, _, ⟨y168, y169, y64⟩, y425, y480⟩⟩
 have y481 : FnOk l.prog w K mg base CX0 _ y10 _ _ _ := (qgd y356 y4 y407)
 have y482 : Md l.prog w K mg base CX0 y2 _ "take" _ _ := ⟨y4.cl, ⟨y10, _, ⟨y172, y173, y65⟩, y426, y481⟩⟩
 have y483 : FnOk l.prog w K mg base CX0 _ y11 _ _ _ := (qj8 y357 y4 y482)
 have y484 : Md l.prog w K mg base CX0 y2 _ "do" _ _ := ⟨y4.cl, ⟨y11, _, ⟨y176, y177, y66⟩, y427, y483⟩⟩
 have y485 : FnOk l.prog w K mg base CX0 _ y12 _ _ _ := (qi9 y358 y4 y407)
 have y408 : Md l.prog w K mg base CX0 y2 _ "put" _ _ := ⟨y4.cl, ⟨y12, _, ⟨y180, y181, y67⟩, y428, y485⟩⟩
 have y486 : FnOk l.prog w K mg base CX0 _ y13 _ _ _ := (qdu y359 y4 y408)
 have y487 : Md l.prog w K mg base CX0 y2 _ "undo" _ _ := ⟨y4.cl, ⟨y13, _, ⟨y184, y185, y68⟩, y429, y486⟩⟩
 have y488 : FnOk l.prog w K mg base CX0 _ y14 _ _ _ := (qfs y360 y4 y484 y487)
 have y489 : Md l.prog w K mg base CX0 y2 _ "told" _ _ := ⟨y4.cl, ⟨y14, _, ⟨y188, y189, y69⟩, y430, y488⟩⟩
 have y490 : FnOk l.prog w K mg base CX0 _ y15 _ _ _ := (qew y361 y3 y479)
 have y409 : Cd l.prog w K mg base CX0 y1 _ "Runner" _ _ := ⟨⟨y15, _, PySem.W.mg_of X G y137, ⟨y142, y192, y193, y143⟩, y431, y490⟩⟩
 have y410 : FnOk l.prog w K mg base (CX1 l.prog w) _ y7 _ _ _ := (qcr (Cd := y2) y362 y3 B y404 y120)
 have y411 : Md l.prog w K mg base (CX1 l.prog w) y1 _ "desk_at" _ _ := ⟨y3.cl, ⟨y7, _, ⟨y70, y71, y58⟩, y363, y410⟩⟩
 have y491 : Md l.prog w K mg base CX0 y1 _ "desk_at" _ _ := ⟨y3.cl, ⟨y7, _, ⟨y70, y71, y58⟩, y363, q8j y410⟩⟩
 have y492 : FnOk l.prog w K mg base CX0 _ y16 _ _ _ := (qda y364 y491 y489)
 have y412 : Md l.prog w K mg base CX0 y1 _ "arrive" _ _ := ⟨y3.cl, ⟨y16, _, ⟨y199, y200, y72⟩, y432, y492⟩⟩
 have y493 : FnOk l.prog w K mg base CX0 _ y17 _ _ _ := (qjo (Cd := y2) y365 y3)
 have y494 : Md l.prog w K mg base CX0 y1 _ "request_for" _ _ := ⟨y3.cl, ⟨y17, _, ⟨y203, y204, y73⟩, y433, y493⟩⟩
 have y495 : FnOk l.prog w K mg base CX0 _ y18 _ _ _ := (qh1 y366 y3 y412)
 have y496 : Md l.prog w K mg base CX0 y1 _ "send" _ _ := ⟨y3.cl, ⟨y18, _, ⟨y207, y208, y74⟩, y434, y495⟩⟩
 have y497 : FnOk l.prog w K mg base CX0 _ y19 _ _ _ := (qa1 (Cd := y2) y367 y3)
 have y498 : Md l.prog w K mg base CX0 y1 _ "unheard" _ _ := ⟨y3.cl, ⟨y19, _, ⟨y211, y212, y75⟩, y435, y497⟩⟩
 have y499 : FnOk l.prog w K mg base CX0 _ y20 _ _ _ := (qaj (Cd := y2) y368 y3)
 have y500 : Md l.prog w K mg base CX0 y1 _ "written" _ _ := ⟨y3.cl, ⟨y20, _, ⟨y215, y216, y76⟩, y436, y499⟩⟩
 have y501 : FnOk l.prog w K mg base CX0 _ y21 _ _ _ := (qai y369 y3 y494 y496 y498 y500)
 have y502 : Md l.prog w K mg base CX0 y1 _ "attempt" _ _ := ⟨y3.cl, ⟨y21, _, ⟨y219, y220, y77⟩, y437, y501⟩⟩
 have y503 : FnOk l.prog w K mg base (CX1 l.prog w) _ y22 _ _ _ := (qjx y370 y3 B y477 y502 y405 y127)
 have y504 : Md l.prog w K mg base (CX1 l.prog w) y1 _ "go" _ _ := ⟨y3.cl, ⟨y22, _, ⟨y223, y224, y78⟩, y438, y503⟩⟩
 have y505 : FnOk l.prog w K mg base CX0 _ y23 _ _ _ := (qhe y371 y3 B y412)
 have y506 : Md l.prog w K mg base CX0 y1 _ "late" _ _ := ⟨y3.cl, ⟨y23, _, ⟨y227, y228, y79⟩, y439, y505⟩⟩
 have y507 : FnOk l.prog w K mg base (CX1 l.prog w) _ y24 _ _ _ := (qgr y372 y411 y408)
 have y508 : Md l.prog w K mg base (CX1 l.prog w) y1 _ "fill" _ _ := ⟨y3.cl, ⟨y24, _, ⟨y231, y232, y80⟩, y440, y507⟩⟩
 have y509 : FnOk l.prog w K mg base CX0 _ y25 _ _ _ := (qg2 (Cd := y2) y373 y3)
 have y510 : Md l.prog w K mg base CX0 y1 _ "stop" _ _ := ⟨y3.cl, ⟨y25, _, ⟨y235, y236, y81⟩, y441, y509⟩⟩
 have y511 : FnOk l.prog w K mg base CX0 _ y26 _ _ _ := (qgb (Cd := y2) y374 y3)
 have y512 : Md l.prog w K mg base CX0 y1 _ "wake" _ _ := ⟨y3.cl, ⟨y26, _, ⟨y239, y240, y82⟩, y442, y511⟩⟩
 have y513 : FnOk l.prog w K mg base (CX1 l.prog w) _ y27 _ _ _ := (qep y375 y3 B y411)
 have y514 : Md l.prog w K mg base (CX1 l.prog w) y1 _ "start" _ _ := ⟨y3.cl, ⟨y27, _, ⟨y243, y244, y83⟩, y443, y513⟩⟩
 have y515 : FnOk l.prog w K mg base (CX1 l.prog w) _ y33 _ _ _ := (qgh y376 y514 y504 y506 y508 y510 y512)
 have y516 : Df l.prog w K mg base (CX1 l.prog w) _ "done" _ _ := ⟨⟨y33, _, PySem.W.mg_of X G y247, y84, y444, y515⟩⟩
 have y413 : FnOk l.prog w K mg base (CX1 l.prog w) _ y28 _ _ _ := (qbm y377 y516 y404 y469 y405 y470 m_D m_WD m_W)
 have y558 : Df l.prog w K mg base (CX1 l.prog w) _ "answer" _ _ := ⟨⟨y28, _, PySem.W.mg_of X G y85, y59, y378, y413⟩⟩
 have y414 : Df l.prog w K mg base CX0 _ "answer" _ _ := ⟨⟨y28, _, PySem.W.mg_of X G y85, y59, y378, q8k y413⟩⟩
 have y517 : FnOk l.prog w K mg base CX0 _ y34 _ _ _ := (qas y379 y409 y414)
 have y518 : Df l.prog w K mg base CX0 _ "answers" _ _ := ⟨⟨y34, _, PySem.W.mg_of X G y252, y86, y445, y517⟩⟩
 have y519 : FnOk l.prog w K mg base CX0 _ y35 _ _ _ := (qe7 y380 y409 y414)
 have y110 : Df l.prog w K mg base CX0 _ "runner_after" _ _ := ⟨⟨y35, _, PySem.W.mg_of X G y255, y87, y446, y519⟩⟩
 have y520 : FnOk l.prog w K mg base CX0 _ y36 _ _ _ := (qfz y381 y3 y4 B y110)
 have y521 : Df l.prog w K mg base CX0 _ "keys_after" _ _ := ⟨⟨y36, _, PySem.W.mg_of X G y258, y88, y447, y520⟩⟩
 have y522 : FnOk l.prog w K mg base CX0 _ y37 _ _ _ := (qb3 y382 y3 B y110)
 have y523 : Df l.prog w K mg base CX0 _ "trails_after" _ _ := ⟨⟨y37, _, PySem.W.mg_of X G y261, y89, y448, y522⟩⟩
 have y524 : FnOk l.prog w K mg base CX0 _ y38 _ _ _ := (qgw y383 y4 B)
 have y525 : Df l.prog w K mg base CX0 _ "things_at" _ _ := ⟨⟨y38, _, PySem.W.mg_of X G y264, y90, y449, y524⟩⟩
 have y526 : FnOk l.prog w K mg base CX0 _ y39 _ _ _ := (qb1 y384 y3 y110 y525)
 have y527 : Df l.prog w K mg base CX0 _ "things_after" _ _ := ⟨⟨y39, _, PySem.W.mg_of X G y267, y91, y450, y526⟩⟩
 have y528 : FnOk l.prog w K mg base CX0 _ y40 _ _ _ := (qdw y385 y3 y110)
 have y529 : Df l.prog w K mg base CX0 _ "lost_after" _ _ := ⟨⟨y40, _, PySem.W.mg_of X G y270, y92, y451, y528⟩⟩
 have y530 : FnOk l.prog w K mg base CX0 _ y41 _ _ _ := (qil y386 B)
 have y531 : Df l.prog w K mg base CX0 _ "_law_so" _ _ := ⟨⟨y41, _, PySem.W.mg_of X G y273, y93, y452, y530⟩⟩
 have y532 : FnOk l.prog w K mg base CX0 _ y42 _ _ _ := (qk6 y387 B)
 have y415 : Df l.prog w K mg base CX0 _ "_law_at" _ _ := ⟨⟨y42, _, PySem.W.mg_of X G y276, y94, y453, y532⟩⟩
 have y533 : FnOk l.prog w K mg base CX0 _ y43 _ _ _ := (qfy y388)
 have y416 : Df l.prog w K mg base CX0 _ "_law_work_called" _ _ := ⟨⟨y43, _, PySem.W.mg_of X G y279, y95, y454, y533⟩⟩
 have y534 : FnOk l.prog w K mg base CX0 _ y44 _ _ _ := (qdi y389)
 have y348 : Df l.prog w K mg base CX0 _ "_law_thing_called" _ _ := ⟨⟨y44, _, PySem.W.mg_of X G y282, y96, y455, y534⟩⟩
 have y535 : FnOk l.prog w K mg base CX0 _ y45 _ _ _ := (qb8 y390 B y348)
 have y536 : Df l.prog w K mg base CX0 _ "_law_stocks_of" _ _ := ⟨⟨y45, _, PySem.W.mg_of X G y285, y97, y456, y535⟩⟩
 have y537 : FnOk l.prog w K mg base CX0 _ y46 _ _ _ := (qe1 y391 B y348)
 have y417 : Df l.prog w K mg base CX0 _ "_law_steps_of" _ _ := ⟨⟨y46, _, PySem.W.mg_of X G y288, y98, y457, y537⟩⟩
 have y538 : FnOk l.prog w K mg base CX0 _ y47 _ _ _ := (qgk y392 B y416 y348 y417)
 have y539 : Df l.prog w K mg base CX0 _ "_law_deed_of" _ _ := ⟨⟨y47, _, PySem.W.mg_of X G y291, y99, y458, y538⟩⟩
 have y540 : FnOk l.prog w K mg base CX0 _ y48 _ _ _ := (qec y393 B y415 y416 y417 y539)
 have y541 : Df l.prog w K mg base CX0 _ "_law_drawn" _ _ := ⟨⟨y48, _, PySem.W.mg_of X G y294, y100, y459, y540⟩⟩
 have y542 : FnOk l.prog w K mg base CX0 _ y49 _ _ _ := (qg1 y394 B)
 have y418 : Df l.prog w K mg base CX0 _ "_law_copy" _ _ := ⟨⟨y49, _, PySem.W.mg_of X G y297, y101, y460, y542⟩⟩
 have y543 : FnOk l.prog w K mg base CX0 _ y50 _ _ _ := (qbt y395 B)
 have y419 : Df l.prog w K mg base CX0 _ "_law_copied" _ _ := ⟨⟨y50, _, PySem.W.mg_of X G y300, y102, y461, y543⟩⟩
 have y544 : FnOk l.prog w K mg base CX0 _ y51 _ _ _ := (qef y396 B)
 have y349 : Df l.prog w K mg base CX0 _ "_law_whole" _ _ := ⟨⟨y51, _, PySem.W.mg_of X G y303, y103, y462, y544⟩⟩
 have y545 : FnOk l.prog w K mg base CX0 _ y52 _ _ _ := (qg9 y397 B y349)
 have y546 : Df l.prog w K mg base CX0 _ "_law_is_entry" _ _ := ⟨⟨y52, _, PySem.W.mg_of X G y306, y104, y463, y545⟩⟩
 have y547 : FnOk l.prog w K mg base CX0 _ y53 _ _ _ := (qed y398 B y546)
 have y548 : Df l.prog w K mg base CX0 _ "_law_are_trails" _ _ := ⟨⟨y53, _, PySem.W.mg_of X G y309, y105, y464, y547⟩⟩
 have y549 : FnOk l.prog w K mg base CX0 _ y54 _ _ _ := (qer y399 B y349)
 have y550 : Df l.prog w K mg base CX0 _ "_law_are_things" _ _ := ⟨⟨y54, _, PySem.W.mg_of X G y312, y106, y465, y549⟩⟩
 have y551 : FnOk l.prog w K mg base CX0 _ y55 _ _ _ := (qgn y400 B y349)
 have y552 : Df l.prog w K mg base CX0 _ "_law_are_keys" _ _ := ⟨⟨y55, _, PySem.W.mg_of X G y315, y107, y466, y551⟩⟩
 have y553 : FnOk l.prog w K mg base CX0 _ y56 _ _ _ := (q9x y401 B)
 have y554 : Df l.prog w K mg base CX0 _ "_law_started" _ _ := ⟨⟨y56, _, PySem.W.mg_of X G y318, y108, y467, y553⟩⟩
 have y555 : FnOk l.prog w K mg base CX0 _ y57 _ _ _ := (qdg y402 B y419 y418 y527 y521 y523 y550 y552 y548)
 have y556 : Df l.prog w K mg base CX0 _ "_law_state" _ _ := ⟨⟨y57, _, PySem.W.mg_of X G y321, y109, y468, y555⟩⟩
 exact (qim y403 B ⟨y415, y536, y541, y418, y419, y554, y556, y531, y529, y518⟩)
theorem walk {l : PySem.W.OpenLaw} {q : Program} {loose : List Str} {XP : (Str → Option Value) → Heap → Prop} {YP : World → Heap → Prop} {d : DefRec} {K : Params → PySem.W.Frag} (hn : l.most = some 63) (hdf : d.params.defaults = [])
  (hY : ∀ (w : World) (h : Heap), YP w h → (K w.params).In h)
  (F : ∀ (w : World) (mg : Str → Option Value) (fa : Addr) (h : Heap), (K w.params).In h → h.Ns mainGlobals mg → mg d.name = some (.ref fa) →
   ∃ fd : FuncData, (∀ (s : Shared) (u : Value), BindsTo s fd ⟨[u], []⟩ [("_law_script", u)]) ∧ ∀ base : Heap, (K w.params).In base → base.Ns mainGlobals mg → FnOk l.prog w (K w.params) mg base CX0 14 fa fd ["_law_script"] (qeu (K w.params))) :
  PySem.W.WalkO q loose XP YP l.row.toRowW d [] (fun f vs => PySem.call f vs) :=
 L2.walk_of (n := 63) (k := 14) (x := "_law_script") (CX := fun _ => CX0) (sp := fun w => qeu (K w.params)) hn (by decide) hdf ⟨rfl, by decide, by decide⟩ hY F (fun _ _ a ns hl hO hS => ⟨a, ns, rfl, Scr.of hO hS, hl, fun _ => rfl⟩) (fun _ _ _ _ _ z => z)
end K08
open PySem PySem.W PyProof.Rows
namespace PySem.W.Fast
theorem tw10006699098493041087:True:=⟨⟩
theorem tw10055758452537973099:True:=⟨⟩
theorem tw10100218078930304576:True:=⟨⟩
theorem tw10104079833283368278:True:=⟨⟩
theorem tw10112081046703324541:True:=⟨⟩
theorem tw10123379745668433748:True:=⟨⟩
theorem tw10221869634043112079:True:=⟨⟩
theorem tw10247447628939098807:True:=⟨⟩
theorem tw10298538333512045713:True:=⟨⟩
theorem tw10301075225317820729:True:=⟨⟩
theorem tw10324108806692160928:True:=⟨⟩
theorem tw10373879284503992791:True:=⟨⟩
theorem tw10397003389309226136:True:=⟨⟩
theorem tw10421834339278424668:True:=⟨⟩
theorem tw1044309873485161894:True:=⟨⟩
theorem tw10463357493033810971:True:=⟨⟩
theorem tw10504192696977718877:True:=⟨⟩
theorem tw10532428695145945737:True:=⟨⟩
theorem tw1053988642548224954:True:=⟨⟩
theorem tw10563290571751510299:True:=⟨⟩
theorem tw10607792110269440178:True:=⟨⟩
theorem tw10612741157037430180:True:=⟨⟩
theorem tw10643917418628639314:True:=⟨⟩
theorem tw10713436897159740571:True:=⟨⟩
theorem tw10753534003609496162:True:=⟨⟩
theorem tw10769104945164699376:True:=⟨⟩
theorem tw10777067877884028737:True:=⟨⟩
theorem tw10778188951083377480:True:=⟨⟩
theorem tw10950055309252788358:True:=⟨⟩
theorem tw1098375189795801501:True:=⟨⟩
theorem tw11014587284086934585:True:=⟨⟩
theorem tw11022344162127919849:True:=⟨⟩
theorem tw11075631073837624414:True:=⟨⟩
theorem tw11078651599790548184:True:=⟨⟩
theorem tw11087129929827796688:True:=⟨⟩
theorem tw11102953954079894648:True:=⟨⟩
theorem tw11219550379873179373:True:=⟨⟩
theorem tw11232628923881409214:True:=⟨⟩
theorem tw11252840866544397080:True:=⟨⟩
theorem tw11301705283593099833:True:=⟨⟩
theorem tw11302213250781424078:True:=⟨⟩
theorem tw11320296497963466259:True:=⟨⟩
theorem tw11344867467668503203:True:=⟨⟩
theorem tw11393943741435082752:True:=⟨⟩
theorem tw11428185128004481103:True:=⟨⟩
theorem tw11441138028203192965:True:=⟨⟩
theorem tw11447496844277008828:True:=⟨⟩
theorem tw11503800433106718513:True:=⟨⟩
theorem tw11512069678744293945:True:=⟨⟩
theorem tw11545100760452873162:True:=⟨⟩
theorem tw1159743041568113750:True:=⟨⟩
theorem tw11605309182965606520:True:=⟨⟩
theorem tw11617503819185843293:True:=⟨⟩
theorem tw11646402230903335053:True:=⟨⟩
theorem tw11651033654610730364:True:=⟨⟩
theorem tw11653510523783190423:True:=⟨⟩
theorem tw11725083948899222945:True:=⟨⟩
theorem tw11739864831835144081:True:=⟨⟩
theorem tw11747479631628569024:True:=⟨⟩
theorem tw11759090623681081082:True:=⟨⟩
theorem tw11769326808042368209:True:=⟨⟩
theorem tw11817677131029771222:True:=⟨⟩
theorem tw11946545809956644652:True:=⟨⟩
theorem tw11967002269795022578:True:=⟨⟩
theorem tw12016602638632078035:True:=⟨⟩
theorem tw12032568913979245862:True:=⟨⟩
theorem tw12038445371707567727:True:=⟨⟩
theorem tw12061848879023208416:True:=⟨⟩
theorem tw12088835394486625281:True:=⟨⟩
theorem tw12182302073189487932:True:=⟨⟩
theorem tw12249445019679137899:True:=⟨⟩
theorem tw12298718617647590945:True:=⟨⟩
theorem tw12340088513775092036:True:=⟨⟩
theorem tw12380497435118206488:True:=⟨⟩
theorem tw12383958472269306204:True:=⟨⟩
theorem tw12440547684628201369:True:=⟨⟩
theorem tw12551531802766815987:True:=⟨⟩
theorem tw12605000571935129198:True:=⟨⟩
theorem tw12623256441567723200:True:=⟨⟩
theorem tw12667686517100724255:True:=⟨⟩
theorem tw12678624588778910617:True:=⟨⟩
theorem tw1268599891791985886:True:=⟨⟩
theorem tw12704133195465080681:True:=⟨⟩
theorem tw12799176249125081124:True:=⟨⟩
theorem tw12828158878352034985:True:=⟨⟩
theorem tw12853811212159159812:True:=⟨⟩
theorem tw12861725177909778007:True:=⟨⟩
theorem tw12880489693974758363:True:=⟨⟩
theorem tw12923617346698096214:True:=⟨⟩
theorem tw12953390927803763546:True:=⟨⟩
theorem tw13004107750122611144:True:=⟨⟩
theorem tw13035634988494085085:True:=⟨⟩
theorem tw13038143978506108893:True:=⟨⟩
theorem tw1304406532352112835:True:=⟨⟩
theorem tw1305011614790744204:True:=⟨⟩
theorem tw13069196549654248322:True:=⟨⟩
theorem tw13080933615575646929:True:=⟨⟩
theorem tw13093612994842514326:True:=⟨⟩
theorem tw13103163683168675153:True:=⟨⟩
theorem tw13161765434933320581:True:=⟨⟩
theorem tw13172779616034836555:True:=⟨⟩
theorem tw13175035085683359470:True:=⟨⟩
theorem tw13238989904611740832:True:=⟨⟩
theorem tw132420376822158908:True:=⟨⟩
theorem tw13254913639200554476:True:=⟨⟩
theorem tw13314392774006929768:True:=⟨⟩
theorem tw13321893669728452803:True:=⟨⟩
theorem tw1344824339710265280:True:=⟨⟩
theorem tw13450713845887022442:True:=⟨⟩
theorem tw13618823058223358149:True:=⟨⟩
theorem tw13622693900764739987:True:=⟨⟩
theorem tw13783438191004456107:True:=⟨⟩
theorem tw13802107699372211536:True:=⟨⟩
theorem tw13805929218718470431:True:=⟨⟩
theorem tw13876846205950671637:True:=⟨⟩
theorem tw13945863421378985615:True:=⟨⟩
theorem tw13952839182533297783:True:=⟨⟩
theorem tw13962187928928418750:True:=⟨⟩
theorem tw13980744770647144032:True:=⟨⟩
theorem tw14040879453117314398:True:=⟨⟩
theorem tw14046692845961905904:True:=⟨⟩
theorem tw14075515380879997514:True:=⟨⟩
theorem tw14108405370500952702:True:=⟨⟩
theorem tw14150026691535675969:True:=⟨⟩
theorem tw14175528103494079569:True:=⟨⟩
theorem tw14197165993958127744:True:=⟨⟩
theorem tw14213284688601832796:True:=⟨⟩
theorem tw14299710695742072283:True:=⟨⟩
theorem tw14310223805751269014:True:=⟨⟩
theorem tw14325194484372947316:True:=⟨⟩
theorem tw14352294430773195720:True:=⟨⟩
theorem tw14358388424588137445:True:=⟨⟩
theorem tw14394162034647062863:True:=⟨⟩
theorem tw14447047948057702829:True:=⟨⟩
theorem tw14459986021552584452:True:=⟨⟩
theorem tw14465602045419435188:True:=⟨⟩
theorem tw14559381860179371003:True:=⟨⟩
theorem tw14568207815312823982:True:=⟨⟩
theorem tw14619154810183955635:True:=⟨⟩
theorem tw14634830230835749274:True:=⟨⟩
theorem tw1470618807082323120:True:=⟨⟩
theorem tw14841104325130956063:True:=⟨⟩
theorem tw14846652757166939351:True:=⟨⟩
theorem tw14889894550803585489:True:=⟨⟩
theorem tw14922622023847562275:True:=⟨⟩
theorem tw14954848710188839446:True:=⟨⟩
theorem tw15019811426905318566:True:=⟨⟩
theorem tw15107563797385157696:True:=⟨⟩
theorem tw15129741487100556054:True:=⟨⟩
theorem tw15148934569981988978:True:=⟨⟩
theorem tw15178091532581809079:True:=⟨⟩
theorem tw1524215540410786118:True:=⟨⟩
theorem tw15293216484019635820:True:=⟨⟩
theorem tw15321699950089167629:True:=⟨⟩
theorem tw15339763651754036863:True:=⟨⟩
theorem tw15372148880650760207:True:=⟨⟩
theorem tw15409293209376508491:True:=⟨⟩
theorem tw15472525350810176264:True:=⟨⟩
theorem tw15479719147631447945:True:=⟨⟩
theorem tw15528295854708424688:True:=⟨⟩
theorem tw15554505224659039856:True:=⟨⟩
theorem tw15599712419227320552:True:=⟨⟩
theorem tw15606136569078871119:True:=⟨⟩
theorem tw15657035606615074938:True:=⟨⟩
theorem tw15724291337302557096:True:=⟨⟩
theorem tw15764859660301803209:True:=⟨⟩
theorem tw15811227994503102804:True:=⟨⟩
theorem tw15815984802028592733:True:=⟨⟩
theorem tw15911538707094793469:True:=⟨⟩
theorem tw15911886635659445691:True:=⟨⟩
theorem tw15940147774965259010:True:=⟨⟩
theorem tw15950727235657586401:True:=⟨⟩
theorem tw15999989922312878940:True:=⟨⟩
theorem tw16035464061264268177:True:=⟨⟩
theorem tw16055217266561132927:True:=⟨⟩
theorem tw16055499795303336153:True:=⟨⟩
theorem tw16070856317549365219:True:=⟨⟩
theorem tw16086015250683336575:True:=⟨⟩
theorem tw16101772541902270090:True:=⟨⟩
theorem tw16114242391003968511:True:=⟨⟩
theorem tw16165417794398311651:True:=⟨⟩
theorem tw16214780107697489965:True:=⟨⟩
theorem tw16220331977088403502:True:=⟨⟩
theorem tw16238716999066521097:True:=⟨⟩
theorem tw1633139013303877986:True:=⟨⟩
theorem tw16385689087086292924:True:=⟨⟩
theorem tw16557743491222922285:True:=⟨⟩
theorem tw16575639232215533625:True:=⟨⟩
theorem tw16641312441437663144:True:=⟨⟩
theorem tw16657452736706773033:True:=⟨⟩
theorem tw16754352311785282725:True:=⟨⟩
theorem tw1676499823703941444:True:=⟨⟩
theorem tw16765941452342197832:True:=⟨⟩
theorem tw16796748256000615682:True:=⟨⟩
theorem tw16797091313702601917:True:=⟨⟩
theorem tw16870387905342105425:True:=⟨⟩
theorem tw16880308088311566197:True:=⟨⟩
theorem tw16934205676218176023:True:=⟨⟩
theorem tw1693831052922105017:True:=⟨⟩
theorem tw16994734213245692250:True:=⟨⟩
theorem tw16995702823400211584:True:=⟨⟩
theorem tw17032950575396091749:True:=⟨⟩
theorem tw17077732524011524240:True:=⟨⟩
theorem tw17159792430069937713:True:=⟨⟩
theorem tw1717111143838676400:True:=⟨⟩
theorem tw17173371153349474971:True:=⟨⟩
theorem tw17188978501171157377:True:=⟨⟩
theorem tw17189717976344318170:True:=⟨⟩
theorem tw17216622439984161008:True:=⟨⟩
theorem tw17269826980673885327:True:=⟨⟩
theorem tw17286352295972652831:True:=⟨⟩
theorem tw1730869881013604892:True:=⟨⟩
theorem tw17323363130645510776:True:=⟨⟩
theorem tw17331253833092472006:True:=⟨⟩
theorem tw17332215701425179823:True:=⟨⟩
theorem tw17380076438847662224:True:=⟨⟩
theorem tw17414987077818013071:True:=⟨⟩
theorem tw17429085838418547430:True:=⟨⟩
theorem tw17551299928308900847:True:=⟨⟩
theorem tw17606434426336679658:True:=⟨⟩
theorem tw17640879348545100631:True:=⟨⟩
theorem tw17680769683284260572:True:=⟨⟩
theorem tw17749363382893002953:True:=⟨⟩
theorem tw17812857223837816168:True:=⟨⟩
theorem tw17815609400966327926:True:=⟨⟩
theorem tw17819125436154883234:True:=⟨⟩
theorem tw17848912534440942347:True:=⟨⟩
theorem tw17868749917884976244:True:=⟨⟩
theorem tw17904077417338253537:True:=⟨⟩
theorem tw17915117579295498331:True:=⟨⟩
theorem tw17915550718981888317:True:=⟨⟩
theorem tw17953991328067410013:True:=⟨⟩
theorem tw18002143885388527476:True:=⟨⟩
theorem tw18055105584269861078:True:=⟨⟩
theorem tw18086270103878053532:True:=⟨⟩
theorem tw18188157867081417705:True:=⟨⟩
theorem tw1823881846141524161:True:=⟨⟩
theorem tw18280337764129310349:True:=⟨⟩
theorem tw18300476684767408649:True:=⟨⟩
theorem tw18302170952908786464:True:=⟨⟩
theorem tw18335016696555392403:True:=⟨⟩
theorem tw18348804452862650236:True:=⟨⟩
theorem tw18385515689945376710:True:=⟨⟩
theorem tw1869319981258999641:True:=⟨⟩
theorem tw1953296493915528848:True:=⟨⟩
theorem tw1979028282170258800:True:=⟨⟩
theorem tw1989056985671733568:True:=⟨⟩
theorem tw2041329671197370310:True:=⟨⟩
theorem tw209718233332773228:True:=⟨⟩
theorem tw2101222819817998948:True:=⟨⟩
theorem tw232817155320747012:True:=⟨⟩
theorem tw2442610339033186317:True:=⟨⟩
theorem tw2453198462202107719:True:=⟨⟩
theorem tw249229870647389775:True:=⟨⟩
theorem tw2495697966155642427:True:=⟨⟩
theorem tw2512302176216428420:True:=⟨⟩
theorem tw2653335398805737701:True:=⟨⟩
theorem tw2693811408780703368:True:=⟨⟩
theorem tw2701291633016040419:True:=⟨⟩
theorem tw2722047964974539194:True:=⟨⟩
theorem tw2744929559847777102:True:=⟨⟩
theorem tw2813906923958487246:True:=⟨⟩
theorem tw2871899190133808814:True:=⟨⟩
theorem tw2875396327823306445:True:=⟨⟩
theorem tw2920569823403997134:True:=⟨⟩
theorem tw2930525692950489705:True:=⟨⟩
theorem tw296438807601801204:True:=⟨⟩
theorem tw2970586556126304658:True:=⟨⟩
theorem tw3009597701889078169:True:=⟨⟩
theorem tw3010240816430496513:True:=⟨⟩
theorem tw3041354308173996915:True:=⟨⟩
theorem tw3056958367419869406:True:=⟨⟩
theorem tw3063510618330272637:True:=⟨⟩
theorem tw3143723505972631830:True:=⟨⟩
theorem tw3156184986854623735:True:=⟨⟩
theorem tw317512831239782231:True:=⟨⟩
theorem tw3186022955898091309:True:=⟨⟩
theorem tw3235032290941933434:True:=⟨⟩
theorem tw3251910147290067718:True:=⟨⟩
theorem tw3278630957038257429:True:=⟨⟩
theorem tw3287166217032082239:True:=⟨⟩
theorem tw3346975218366132328:True:=⟨⟩
theorem tw3383244945454938861:True:=⟨⟩
theorem tw3546783452055189923:True:=⟨⟩
theorem tw3554142557246018844:True:=⟨⟩
theorem tw3603764123581743155:True:=⟨⟩
theorem tw3681286271851201865:True:=⟨⟩
theorem tw3685985117593279272:True:=⟨⟩
theorem tw3700302294940722453:True:=⟨⟩
theorem tw3714397993205267489:True:=⟨⟩
theorem tw3757469447186520705:True:=⟨⟩
theorem tw3758297717679888337:True:=⟨⟩
theorem tw3759837510098242893:True:=⟨⟩
theorem tw3772161180385382531:True:=⟨⟩
theorem tw3794270184568507523:True:=⟨⟩
theorem tw385229210528994705:True:=⟨⟩
theorem tw3928212403566058332:True:=⟨⟩
theorem tw3929691637038099558:True:=⟨⟩
theorem tw3952807850294121141:True:=⟨⟩
theorem tw399860309439297821:True:=⟨⟩
theorem tw4003432735244797327:True:=⟨⟩
theorem tw4072804827055757579:True:=⟨⟩
theorem tw4085008991527181014:True:=⟨⟩
theorem tw4131496776081670344:True:=⟨⟩
theorem tw4136826839370376413:True:=⟨⟩
theorem tw4154020165383749232:True:=⟨⟩
theorem tw4167317707919753981:True:=⟨⟩
theorem tw4176414068793276577:True:=⟨⟩
theorem tw4213450439667186109:True:=⟨⟩
theorem tw423635930430821862:True:=⟨⟩
theorem tw4237479767710596631:True:=⟨⟩
theorem tw4251881627221270193:True:=⟨⟩
theorem tw427353361899040168:True:=⟨⟩
theorem tw4277198344746592783:True:=⟨⟩
theorem tw4302557789268062138:True:=⟨⟩
theorem tw4375216488696203131:True:=⟨⟩
theorem tw4386054370083075344:True:=⟨⟩
theorem tw439253341884971740:True:=⟨⟩
theorem tw4449465073365397025:True:=⟨⟩
theorem tw4583629504161194441:True:=⟨⟩
theorem tw4605515654131916344:True:=⟨⟩
theorem tw4658455207545594509:True:=⟨⟩
theorem tw4692375140709381715:True:=⟨⟩
theorem tw4727248105303728887:True:=⟨⟩
theorem tw4740700096047170246:True:=⟨⟩
theorem tw4806740457484752251:True:=⟨⟩
theorem tw4866897357735746099:True:=⟨⟩
theorem tw4888550715434646141:True:=⟨⟩
theorem tw4967977631480474744:True:=⟨⟩
theorem tw4972483147829198551:True:=⟨⟩
theorem tw4973074028914247388:True:=⟨⟩
theorem tw4987613768318719021:True:=⟨⟩
theorem tw5022936181384045616:True:=⟨⟩
theorem tw5026044862284555499:True:=⟨⟩
theorem tw5066969360237784792:True:=⟨⟩
theorem tw5098923503271577814:True:=⟨⟩
theorem tw5202117639089913258:True:=⟨⟩
theorem tw5222531709864459705:True:=⟨⟩
theorem tw5247136954922269052:True:=⟨⟩
theorem tw5292169495889088727:True:=⟨⟩
theorem tw5336695258815269404:True:=⟨⟩
theorem tw5340677467591165918:True:=⟨⟩
theorem tw5386315671744849613:True:=⟨⟩
theorem tw5414597085656647427:True:=⟨⟩
theorem tw5436752697676735384:True:=⟨⟩
theorem tw5482340926914072302:True:=⟨⟩
theorem tw5537638730236703026:True:=⟨⟩
theorem tw5539032621485389512:True:=⟨⟩
theorem tw5600168165736067026:True:=⟨⟩
theorem tw5607273353834249748:True:=⟨⟩
theorem tw5672907487864220667:True:=⟨⟩
theorem tw5738106232619623982:True:=⟨⟩
theorem tw574685982319530630:True:=⟨⟩
theorem tw5758467944021268249:True:=⟨⟩
theorem tw5766592206386384726:True:=⟨⟩
theorem tw5770529740923326937:True:=⟨⟩
theorem tw5793975049238600533:True:=⟨⟩
theorem tw5795792115658385552:True:=⟨⟩
theorem tw5804932197257539779:True:=⟨⟩
theorem tw5838567492712520861:True:=⟨⟩
theorem tw5918581782504824395:True:=⟨⟩
theorem tw5950421367411160717:True:=⟨⟩
theorem tw5983622818259813814:True:=⟨⟩
theorem tw5985693709947421930:True:=⟨⟩
theorem tw5986955390609912691:True:=⟨⟩
theorem tw6091294172646830611:True:=⟨⟩
theorem tw6177568136172984470:True:=⟨⟩
theorem tw6211571069373342325:True:=⟨⟩
theorem tw621853274368752375:True:=⟨⟩
theorem tw6273528797595803740:True:=⟨⟩
theorem tw627743842427936587:True:=⟨⟩
theorem tw6316250515712206801:True:=⟨⟩
theorem tw6346937263309502311:True:=⟨⟩
theorem tw6358572024838502440:True:=⟨⟩
theorem tw636424446164782827:True:=⟨⟩
theorem tw6385596937754273135:True:=⟨⟩
theorem tw6432892228757650372:True:=⟨⟩
theorem tw6452090070222514631:True:=⟨⟩
theorem tw645552812880880988:True:=⟨⟩
theorem tw646630615466430382:True:=⟨⟩
theorem tw6529851941913392161:True:=⟨⟩
theorem tw6638840530290794714:True:=⟨⟩
theorem tw6651652758736603338:True:=⟨⟩
theorem tw6681479733763104141:True:=⟨⟩
theorem tw6712264799719355745:True:=⟨⟩
theorem tw6713208642904332328:True:=⟨⟩
theorem tw6820591450331460293:True:=⟨⟩
theorem tw6868770630698142766:True:=⟨⟩
theorem tw6870800254835267863:True:=⟨⟩
theorem tw6894881035421269578:True:=⟨⟩
theorem tw6966412206044447134:True:=⟨⟩
theorem tw7011980971029013047:True:=⟨⟩
theorem tw7051299028418257147:True:=⟨⟩
theorem tw7055644006536927497:True:=⟨⟩
theorem tw7140995849265677714:True:=⟨⟩
theorem tw7149356834807374017:True:=⟨⟩
theorem tw7212572680466736711:True:=⟨⟩
theorem tw7220508639392506619:True:=⟨⟩
theorem tw7280382648220915136:True:=⟨⟩
theorem tw7377218942464611544:True:=⟨⟩
theorem tw7385241110841686723:True:=⟨⟩
theorem tw7401583254601562220:True:=⟨⟩
theorem tw7403975921498073341:True:=⟨⟩
theorem tw7462436452210641511:True:=⟨⟩
theorem tw7531248159814886088:True:=⟨⟩
theorem tw7587561945869264864:True:=⟨⟩
theorem tw7620070202108449407:True:=⟨⟩
theorem tw7634581764455615584:True:=⟨⟩
theorem tw7650857501811431184:True:=⟨⟩
theorem tw765766014221531869:True:=⟨⟩
theorem tw7668710228359416761:True:=⟨⟩
theorem tw7683580984477990710:True:=⟨⟩
theorem tw7726325141928626838:True:=⟨⟩
theorem tw7758611674515804744:True:=⟨⟩
theorem tw777582648137857429:True:=⟨⟩
theorem tw7833668169426691386:True:=⟨⟩
theorem tw7867340532900970734:True:=⟨⟩
theorem tw7902058583548848709:True:=⟨⟩
theorem tw7914515039794370827:True:=⟨⟩
theorem tw801609434070810178:True:=⟨⟩
theorem tw8089670068815490234:True:=⟨⟩
theorem tw812159712024632186:True:=⟨⟩
theorem tw8123962317421347769:True:=⟨⟩
theorem tw8133232480327155741:True:=⟨⟩
theorem tw8276194307734272160:True:=⟨⟩
theorem tw832392176616933958:True:=⟨⟩
theorem tw8334689554290789996:True:=⟨⟩
theorem tw8469063407927268136:True:=⟨⟩
theorem tw85434903927662573:True:=⟨⟩
theorem tw8581503549366607492:True:=⟨⟩
theorem tw8614132613672786397:True:=⟨⟩
theorem tw8671382546860278120:True:=⟨⟩
theorem tw8689464433438133249:True:=⟨⟩
theorem tw8714980100340358178:True:=⟨⟩
theorem tw8721136266798367200:True:=⟨⟩
theorem tw8780294130513283034:True:=⟨⟩
theorem tw8787193953049743665:True:=⟨⟩
theorem tw8790130476713263214:True:=⟨⟩
theorem tw879960435838014205:True:=⟨⟩
theorem tw881053824118915271:True:=⟨⟩
theorem tw9031542816744147416:True:=⟨⟩
theorem tw9073761493668366774:True:=⟨⟩
theorem tw9124548134423645012:True:=⟨⟩
theorem tw9134116974338007860:True:=⟨⟩
theorem tw9141204593748173490:True:=⟨⟩
theorem tw9172313239703615091:True:=⟨⟩
theorem tw9181074507126325456:True:=⟨⟩
theorem tw9193694047842784679:True:=⟨⟩
theorem tw9204776730837464575:True:=⟨⟩
theorem tw928756308042871237:True:=⟨⟩
theorem tw9317095678860968083:True:=⟨⟩
theorem tw9342358452137019978:True:=⟨⟩
theorem tw9391479005599899550:True:=⟨⟩
theorem tw9401378413823445713:True:=⟨⟩
theorem tw9404838377924332178:True:=⟨⟩
theorem tw9441645573405422057:True:=⟨⟩
theorem tw9463169522541498260:True:=⟨⟩
theorem tw9551192977299190107:True:=⟨⟩
theorem tw9595534559806187904:True:=⟨⟩
theorem tw966689952268380342:True:=⟨⟩
theorem tw9684289829571428406:True:=⟨⟩
theorem tw9729667032852678728:True:=⟨⟩
theorem tw9744750727568253758:True:=⟨⟩
theorem tw9760004743777708680:True:=⟨⟩
theorem tw982116840857922847:True:=⟨⟩
theorem tw9821990961425377195:True:=⟨⟩
theorem tw9838174400552942862:True:=⟨⟩
theorem tw9860725010841021186:True:=⟨⟩
theorem tw9876329339786117681:True:=⟨⟩
theorem tw9963048668141851208:True:=⟨⟩
end PySem.W.Fast
set_option maxRecDepth 100000 in
set_option maxHeartbeats 0 in
theorem PySem.Challenge.cw_trailbook_k08_whole_late_ones_holds : PySem.Challenge.rw_trailbook_k08_whole_late_ones.Holds := by
 w_on; o_law; k_head; (case hw => w_witness2)
 k_fill
 refine K08.walk (l := PySem.Challenge.rw_trailbook_k08_whole_late_ones) rfl rfl (fun w h Y => PySem.W.kIn_of Y) ?F
 case F =>
  intro w mg fa h KX G hmg
  refine' K08.all_mk KX G hmg ?y112 ?y113 ?x_hn ?x_tk ?y114 ?y115 ?y116 ?y117 ?y118 ?y119 ?y120 ?y121 ?y122 ?y123 ?y124 ?y125 ?y126 ?y127 ?m_D ?m_WD ?m_W ?y128 ?y129 ?y130 ?y131 ?y132 ?y133 ?y134 ?y135 ?y136 ?y137 ?y138 ?y139 ?y140 ?y141 ?y142 ?y143 ?y144 ?y145 ?y146 ?y147 ?y148 ?y149 ?y150 ?y151 ?y152 ?y153 ?y60 ?y154 ?y155 ?y156 ?y61 ?y157 ?y158 ?y159 ?y62 ?y160 ?y161 ?y162 ?y63 ?y163 ?y164 ?y165 ?y166 ?y167 ?y168 ?y169 ?y170 ?y171 ?y64 ?y172 ?y173 ?y174 ?y175 ?y65 ?y176 ?y177 ?y178 ?y179 ?y66 ?y180 ?y181 ?y182 ?y183 ?y67 ?y184 ?y185 ?y186 ?y187 ?y68 ?y188 ?y189 ?y190 ?y191 ?y69 ?y192 ?y193 ?y194 ?y195 ?y196 ?y70 ?y71 ?y197 ?y198 ?y58 ?y199 ?y200 ?y201 ?y202 ?y72 ?y203 ?y204 ?y205 ?y206 ?y73 ?y207 ?y208 ?y209 ?y210 ?y74 ?y211 ?y212 ?y213 ?y214 ?y75 ?y215 ?y216 ?y217 ?y218 ?y76 ?y219 ?y220 ?y221 ?y222 ?y77 ?y223 ?y224 ?y225 ?y226 ?y78 ?y227 ?y228 ?y229 ?y230 ?y79 ?y231 ?y232 ?y233 ?y234 ?y80 ?y235 ?y236 ?y237 ?y238 ?y81 ?y239 ?y240 ?y241 ?y242 ?y82 ?y243 ?y244 ?y245 ?y246 ?y83 ?y247 ?y248 ?y249 ?y84 ?y85 ?y250 ?y251 ?y59 ?y252 ?y253 ?y254 ?y86 ?y255 ?y256 ?y257 ?y87 ?y258 ?y259 ?y260 ?y88 ?y261 ?y262 ?y263 ?y89 ?y264 ?y265 ?y266 ?y90 ?y267 ?y268 ?y269 ?y91 ?y270 ?y271 ?y272 ?y92 ?y273 ?y274 ?y275 ?y93 ?y276 ?y277 ?y278 ?y94 ?y279 ?y280 ?y281 ?y95 ?y282 ?y283 ?y284 ?y96 ?y285 ?y286 ?y287 ?y97 ?y288 ?y289 ?y290 ?y98 ?y291 ?y292 ?y293 ?y99 ?y294 ?y295 ?y296 ?y100 ?y297 ?y298 ?y299 ?y101 ?y300 ?y301 ?y302 ?y102 ?y303 ?y304 ?y305 ?y103 ?y306 ?y307 ?y308 ?y104 ?y309 ?y310 ?y311 ?y105 ?y312 ?y313 ?y314 ?y106 ?y315 ?y316 ?y317 ?y107 ?y318 ?y319 ?y320 ?y108 ?y321 ?y322 ?y323 ?y109 ?y324 ?y325 ?y326 ?y327 ?y328 ?y329 ?y330 ?y331 ?y332 ?y333 ?y334 ?y335 ?y336 ?y337 ?y338 ?y339 ?y340 ?y341 ?y342 ?y343 ?y344 ?y345 ?y346 ?y347
  (case y112 => k_is)
  (case y113 => k_is)
  (case x_hn => k_is)
  (case x_tk => k_is)
  (case y114 => k_is)
  (case y115 => k_is)
  (case y116 => k_is)
  (case y117 => k_is)
  (case y118 => k_is)
  (case y119 => k_is)
  (case y120 => kernel_rfl)
  (case y121 => k_is)
  (case y122 => k_is)
  (case y123 => k_is)
  (case y124 => k_is)
  (case y125 => k_is)
  (case y126 => k_is)
  (case y127 => kernel_rfl)
  (case m_D => k_is)
  (case m_WD => k_is)
  (case m_W => k_is)
  (case y128 => k_is)
  (case y129 => k_is)
  (case y130 => k_is)
  (case y131 => k_is)
  (case y132 => k_is)
  (case y133 => k_is)
  (case y134 => k_is)
  (case y135 => k_is)
  (case y136 => k_is)
  (case y137 => k_is)
  (case y138 => k_is)
  (case y139 => k_is)
  (case y140 => k_is)
  (case y141 => k_is)
  (case y142 => k_is)
  (case y143 => k_is)
  (case y144 => k_is)
  (case y145 => k_is)
  (case y146 => k_is)
  (case y147 => k_is)
  (case y148 => k_is)
  (case y149 => k_is)
  (case y150 => k_is)
  (case y151 => k_is)
  (case y152 => k_is)
  (case y153 => k_is)
  (case y60 => k_is)
  (case y154 => k_is)
  (case y155 => k_is)
  (case y156 => k_is)
  (case y61 => k_is)
  (case y157 => k_is)
  (case y158 => k_is)
  (case y159 => k_is)
  (case y62 => k_is)
  (case y160 => k_is)
  (case y161 => k_is)
  (case y162 => k_is)
  (case y63 => k_is)
  (case y163 => k_is)
  (case y164 => k_is)
  (case y165 => k_is)
  (case y166 => k_is)
  (case y167 => k_is)
  (case y168 => k_is)
  (case y169 => k_is)
  (case y170 => k_is)
  (case y171 => k_is)
  (case y64 => k_is)
  (case y172 => k_is)
  (case y173 => k_is)
  (case y174 => k_is)
  (case y175 => k_is)
  (case y65 => k_is)
  (case y176 => k_is)
  (case y177 => k_is)
  (case y178 => k_is)
  (case y179 => k_is)
  (case y66 => k_is)
  (case y180 => k_is)
  (case y181 => k_is)
  (case y182 => k_is)
  (case y183 => k_is)
  (case y67 => k_is)
  (case y184 => k_is)
  (case y185 => k_is)
  (case y186 => k_is)
  (case y187 => k_is)
  (case y68 => k_is)
  (case y188 => k_is)
  (case y189 => k_is)
  (case y190 => k_is)
  (case y191 => k_is)
  (case y69 => k_is)
  (case y192 => k_is)
  (case y193 => k_is)
  (case y194 => k_is)
  (case y195 => k_is)
  (case y196 => k_is)
  (case y70 => k_is)
  (case y71 => k_is)
  (case y197 => k_is)
  (case y198 => k_is)
  (case y58 => k_is)
  (case y199 => k_is)
  (case y200 => k_is)
  (case y201 => k_is)
  (case y202 => k_is)
  (case y72 => k_is)
  (case y203 => k_is)
  (case y204 => k_is)
  (case y205 => k_is)
  (case y206 => k_is)
  (case y73 => k_is)
  (case y207 => k_is)
  (case y208 => k_is)
  (case y209 => k_is)
  (case y210 => k_is)
  (case y74 => k_is)
  (case y211 => k_is)
  (case y212 => k_is)
  (case y213 => k_is)
  (case y214 => k_is)
  (case y75 => k_is)
  (case y215 => k_is)
  (case y216 => k_is)
  (case y217 => k_is)
  (case y218 => k_is)
  (case y76 => k_is)
  (case y219 => k_is)
  (case y220 => k_is)
  (case y221 => k_is)
  (case y222 => k_is)
  (case y77 => k_is)
  (case y223 => k_is)
  (case y224 => k_is)
  (case y225 => k_is)
  (case y226 => k_is)
  (case y78 => k_is)
  (case y227 => k_is)
  (case y228 => k_is)
  (case y229 => k_is)
  (case y230 => k_is)
  (case y79 => k_is)
  (case y231 => k_is)
  (case y232 => k_is)
  (case y233 => k_is)
  (case y234 => k_is)
  (case y80 => k_is)
  (case y235 => k_is)
  (case y236 => k_is)
  (case y237 => k_is)
  (case y238 => k_is)
  (case y81 => k_is)
  (case y239 => k_is)
  (case y240 => k_is)
  (case y241 => k_is)
  (case y242 => k_is)
  (case y82 => k_is)
  (case y243 => k_is)
  (case y244 => k_is)
  (case y245 => k_is)
  (case y246 => k_is)
  (case y83 => k_is)
  (case y247 => k_is)
  (case y248 => k_is)
  (case y249 => k_is)
  (case y84 => k_is)
  (case y85 => k_is)
  (case y250 => k_is)
  (case y251 => k_is)
  (case y59 => k_is)
  (case y252 => k_is)
  (case y253 => k_is)
  (case y254 => k_is)
  (case y86 => k_is)
  (case y255 => k_is)
  (case y256 => k_is)
  (case y257 => k_is)
  (case y87 => k_is)
  (case y258 => k_is)
  (case y259 => k_is)
  (case y260 => k_is)
  (case y88 => k_is)
  (case y261 => k_is)
  (case y262 => k_is)
  (case y263 => k_is)
  (case y89 => k_is)
  (case y264 => k_is)
  (case y265 => k_is)
  (case y266 => k_is)
  (case y90 => k_is)
  (case y267 => k_is)
  (case y268 => k_is)
  (case y269 => k_is)
  (case y91 => k_is)
  (case y270 => k_is)
  (case y271 => k_is)
  (case y272 => k_is)
  (case y92 => k_is)
  (case y273 => k_is)
  (case y274 => k_is)
  (case y275 => k_is)
  (case y93 => k_is)
  (case y276 => k_is)
  (case y277 => k_is)
  (case y278 => k_is)
  (case y94 => k_is)
  (case y279 => k_is)
  (case y280 => k_is)
  (case y281 => k_is)
  (case y95 => k_is)
  (case y282 => k_is)
  (case y283 => k_is)
  (case y284 => k_is)
  (case y96 => k_is)
  (case y285 => k_is)
  (case y286 => k_is)
  (case y287 => k_is)
  (case y97 => k_is)
  (case y288 => k_is)
  (case y289 => k_is)
  (case y290 => k_is)
  (case y98 => k_is)
  (case y291 => k_is)
  (case y292 => k_is)
  (case y293 => k_is)
  (case y99 => k_is)
  (case y294 => k_is)
  (case y295 => k_is)
  (case y296 => k_is)
  (case y100 => k_is)
  (case y297 => k_is)
  (case y298 => k_is)
  (case y299 => k_is)
  (case y101 => k_is)
  (case y300 => k_is)
  (case y301 => k_is)
  (case y302 => k_is)
  (case y102 => k_is)
  (case y303 => k_is)
  (case y304 => k_is)
  (case y305 => k_is)
  (case y103 => k_is)
  (case y306 => k_is)
  (case y307 => k_is)
  (case y308 => k_is)
  (case y104 => k_is)
  (case y309 => k_is)
  (case y310 => k_is)
  (case y311 => k_is)
  (case y105 => k_is)
  (case y312 => k_is)
  (case y313 => k_is)
  (case y314 => k_is)
  (case y106 => k_is)
  (case y315 => k_is)
  (case y316 => k_is)
  (case y317 => k_is)
  (case y107 => k_is)
  (case y318 => k_is)
  (case y319 => k_is)
  (case y320 => k_is)
  (case y108 => k_is)
  (case y321 => k_is)
  (case y322 => k_is)
  (case y323 => k_is)
  (case y109 => k_is)
  (case y324 => k_is)
  (case y325 => k_is)
  (case y326 => k_is)
  (case y327 => k_is)
  (case y328 => k_is)
  (case y329 => k_is)
  (case y330 => k_is)
  (case y331 => k_is)
  (case y332 => k_is)
  (case y333 => k_is)
  (case y334 => k_is)
  (case y335 => k_is)
  (case y336 => k_is)
  (case y337 => k_is)
  (case y338 => k_is)
  (case y339 => k_is)
  (case y340 => k_is)
  (case y341 => k_is)
  (case y342 => k_is)
  (case y343 => k_is)
  (case y344 => k_is)
  (case y345 => k_is)
  (case y346 => k_is)
  (case y347 => k_is)
