import PyProof.Rows.All
import Wide.All
import OpenK.AllK
import Wide.FinOn
import Lean
import PyProof.EqAt
import PyProof.EqKinds
import PyProof.TupleCall
import PySem.Challenge.RW_trailbook_k07_plain_yard
set_option Elab.async false
set_option linter.all false
set_option maxRecDepth 100000
set_option maxHeartbeats 4000000
namespace L2
open PySem PySem.Spec PyProof.Rows
abbrev Key:=Sum Int Str
def q99:Key→Value→Bool
 | .inl k,v=>Value.isInt k v
 | .inr x,v=>Value.isStrOf x v
def keyH (w:World):Key→Int
 | .inl k=>hashInt k
 | .inr x=>hashStr w x
theorem q1c:∀ {k:Key} {v:Value},q99 k v=true→(∃ i t,k=Sum.inl i∧v=Value.int i t)∨(∃ x t,k=Sum.inr x∧v=Value.str x t)
 | .inl i,v,h=>by
  obtain⟨t,e⟩:=Value.isInt_shape (k:=i) (v:=v) h
  exact .inl ⟨i,t,rfl,e⟩
 | .inr x,v,h=>by
  obtain⟨t,e⟩:=Value.isStrOf_shape (x:=x) (v:=v) h
  exact .inr ⟨x,t,rfl,e⟩
theorem qcl (i:Int) (t:Tok):q99 (.inl i) (.int i t)=true:=by simp[q99,Value.isInt]
theorem qdm (x:Str) (t:Tok):q99 (.inr x) (.str x t)=true:=by simp[q99,Value.isStrOf]
theorem qjp (a b:Int):decide ((Sum.inl a:Key)=Sum.inl b)=(a == b):=by
 by_cases e:a=b
 ·subst e;simp
 ·have h:¬ (Sum.inl a:Key)=Sum.inl b:=fun q=>e (Sum.inl.inj q)
  rw[decide_eq_false h]
  exact(beq_eq_false_iff_ne.mpr e).symm
theorem qk5 (a b:Str):decide ((Sum.inr a:Key)=Sum.inr b)=decide (a=b):=by
 by_cases e:a=b
 ·subst e;simp
 ·have h:¬ (Sum.inr a:Key)=Sum.inr b:=fun q=>e (Sum.inr.inj q)
  rw[decide_eq_false h,decide_eq_false e]
theorem ql9 (a:Int) (b:Str):decide ((Sum.inl a:Key)=Sum.inr b)=false:=decide_eq_false (fun q=>nomatch q)
theorem qkz (a:Str) (b:Int):decide ((Sum.inr a:Key)=Sum.inl b)=false:=decide_eq_false (fun q=>nomatch q)
def q1b (prog:Program) (w:World):PySem.KeyKind prog w Key where
 is:=q99
 hash:=keyH w
 inj:=fun v a b ha hb=>by
  rcases q1c ha with ⟨i,t,rfl,rfl⟩ | ⟨x,t,rfl,rfl⟩
  ·rcases q1c hb with ⟨j,u,rfl,e⟩ | ⟨y,u,rfl,e⟩
   ·injection e with e1 _;rw[e1]
   ·exact nomatch e
  ·rcases q1c hb with ⟨j,u,rfl,e⟩ | ⟨y,u,rfl,e⟩
   ·exact nomatch e
   ·injection e with e1 _;rw[e1]
 byValue:=fun k v h=>by
  rcases q1c h with ⟨i,t,rfl,rfl⟩ | ⟨x,t,rfl,rfl⟩ <;> rfl
 pyHash:=fun hv h=>by
  rcases q1c hv with ⟨i,t,rfl,rfl⟩ | ⟨x,t,rfl,rfl⟩
  ·exact wpAny_pyHash_int h
  ·exact wpAny_pyHash_str h
 eqBool:=fun hu hv h=>by
  rcases q1c hu with ⟨i,t,rfl,rfl⟩ | ⟨x,t,rfl,rfl⟩
  ·rcases q1c hv with ⟨j,u,rfl,rfl⟩ | ⟨y,u,rfl,rfl⟩
   ·rw[qjp]at h;exact wpAny_eqBool_int h
   ·rw[ql9]at h;exact SeqAt.EqAt.int_str i t y u _ _ _ _ h
  ·rcases q1c hv with ⟨j,u,rfl,rfl⟩ | ⟨y,u,rfl,rfl⟩
   ·rw[qkz]at h;exact SeqAt.EqAt.str_int x t j u _ _ _ _ h
   ·rw[qk5]at h;exact wpAny_eqBool_str h
 «strs» := fun k x t v h=>by
  rcases q1c h with ⟨i,u,rfl,e⟩ | ⟨y,u,rfl,e⟩
  ·exact nomatch e
  ·injection e with e1 _
   subst e1
   cases v <;> rfl
theorem q9g (prog:Program) (w:World) (i:Int) (t:Tok):(q1b prog w).is (.inl i) (.int i t)=true:=qcl i t
theorem q8v (prog:Program) (w:World) (x:Str) (t:Tok):(q1b prog w).is (.inr x) (.str x t)=true:=qdm x t
end L2
namespace L2
open PySem PySem.Spec PyProof.Rows
inductive V where
 | non | bl (b:Bool) | int (i:Int) | str (x:Str) | byt (b:Array UInt8) | flt (b:UInt64) | ref (a:Addr) | ty (n:String)
 deriving DecidableEq
def RelV:V→Value→Prop
 | .non,u=>u=Value.none
 | .bl b,u=>u=Value.bool b
 | .int i,u=>∃ t,u=Value.int i t
 | .str x,u=>∃ t,u=Value.str x t
 | .byt b,u=>∃ t,u=Value.bytes b t
 | .flt b,u=>∃ t,u=Value.float b t
 | .ref a,u=>u=Value.ref a
 | .ty n,u=>u=Value.type n
abbrev Vals:List V→List Value→Prop:=Paired RelV
theorem Vals.length {xs:List V} {us:List Value} (r:Vals xs us):xs.length=us.length:=Paired.length r
theorem Vals.get:∀ {xs:List V} {us:List Value} {i:Nat} {x:V},Vals xs us→xs[i]? = some x→∃ u,us[i]? = some u∧RelV x u
 | _,_,_,_,.nil,e=>by simp at e
 | _,_,0,_,.cons r _,e=>by simp at e;subst e;exact⟨_,rfl,r⟩
 | _,_,i + 1,x,.cons _ t,e=>by
  obtain⟨u,h1,h2⟩:=Vals.get (i:=i) (x:=x) t (by simpa using e)
  exact⟨u,by simpa using h1,h2⟩
theorem Vals.set {x:V} {u:Value} (r:RelV x u):∀ {xs:List V} {us:List Value} (i:Nat),Vals xs us→Vals (xs.set i x) (us.set i u)
 | _,_,_,.nil=> .nil
 | _,_,0,.cons _ t=> .cons r t
 | _,_,i + 1,.cons q t=> .cons q (Vals.set r i t)
theorem Vals.append:∀ {xs ys:List V} {us ws:List Value},Vals xs us→Vals ys ws→Vals (xs ++ ys) (us ++ ws)
 | _,_,_,_,.nil,s=>s
 | _,_,_,_,.cons r t,s=> .cons r (Vals.append t s)
theorem Vals.take:∀ {xs:List V} {us:List Value} (n:Nat),Vals xs us→Vals (xs.take n) (us.take n)
 | _,_,0,_=> .nil
 | _,_,_ + 1,.nil=> .nil
 | _,_,n + 1,.cons r t=> .cons r (Vals.take n t)
theorem Vals.drop:∀ {xs:List V} {us:List Value} (n:Nat),Vals xs us→Vals (xs.drop n) (us.drop n)
 | _,_,0,r=>r
 | _,_,_ + 1,.nil=> .nil
 | _,_,n + 1,.cons _ t=>Vals.drop n t
def RelO:Option V→Option Value→Prop
 | some v,some u=>RelV v u
 | none,none=>True
 | _,_=>False
def KV {κ:Type}:List (κ×V)→List (κ×Value)→Prop:=Paired fun (p:κ×V) (q:κ×Value)=>p.1=q.1∧RelV p.2 q.2
def kV:Key→V
 | .inl i=> .int i
 | .inr x=> .str x
inductive HO where
  | lst (xs:List V)
  | tup (xs:List V)
  | dK (kvs:List (Key×V)) | dT (kvs:List (List Key×V))
  | set (S:Int→Bool) (n:Nat)
  | ins (C dx:Addr) (fs:List (Str×V))
  | own (x:Addr)
  | xd (fs:List (Str×V))
  | met (f x:Addr)
  | rng (lo hi:Int)
  | frz (o:Obj) (u:HO)
  | tbl (ps:Array Value)
  | ext (φ:Heap→Prop)
abbrev Hp:=Addr→Option HO
def upd (H:Hp) (a:Addr) (o:HO):Hp:=fun b=>if b=a then some o else H b
theorem q03 {H:Hp} {a:Addr} {o:HO}:upd H a o a=some o:=by unfold upd;rw[if_pos rfl]
theorem q0b {H:Hp} {a b:Addr} {o:HO} (h:b ≠ a):upd H a o b=H b:=by unfold upd;rw[if_neg h]
theorem q8w {H:Hp} {a:Addr} {o u:HO}:upd (upd H a o) a u=upd H a u:=by
 funext b;unfold upd;split <;> rfl
theorem q30 {H:Hp} {a b:Addr} {o u:HO} (h:H a=some o) (h':H b=some u) (d:o ≠ u):a ≠ b:=by
 intro e;subst e;rw[h]at h';exact d (Option.some.inj h')
theorem q0d {H:Hp} {a b:Addr} {o:HO} (h:H a=some o) (h':H b=none):a ≠ b:=by
 intro e;subst e;rw[h]at h';cases h'
section
variable (P:Program) (w:World)
def q1n (H:Hp) (h:Heap) (a:Addr):HO→Prop
 | .lst xs=>xs.length≤sizeLine∧∃ (its:List Value) (n:Nat),Vals xs its∧h.get? a=some { cls:= .type "list",data:= .seq its.toArray n }
 | .tup xs=>xs.length≤sizeLine∧∃ its:List Value,Vals xs its∧IsTup h a its.toArray
 | .dK kvs=>kvs.length≤sizeLine∧(a == sysModules)=false∧∃ vs,KV kvs vs∧h.DictOf (q1b P w) a vs
 | .dT kvs=>kvs.length≤sizeLine∧(a == sysModules)=false∧∃ xs:List (List Key×Addr×Value),
   Paired (fun (p:List Key×V) (q:List Key×Addr×Value)=>p.1=q.1∧H q.2.1=some (.tup (p.1.map kV))∧RelV p.2 q.2.2) kvs xs ∧
   ∃ o es ep,h.get? a=some o∧o.ExactDict∧o.data= .dict es ep∧es.toList=xs.map (entryOfKey (tupleKind (q1b P w)))∧(xs.map (·.1)).Nodup
 | .set S n=>h.SetOf (intKind P w) a S n
 | .ins C dx fs=>H dx=some (.own a)∧fs.length≤1000∧dx ≠ a∧h.get? a=some (PySem.W.instObj C dx) ∧
   ∃ mA,h.Ns1 dx mA∧(∀ f,RelO (fs.lookup f) (mA f))∧PySem.Within mA (fs.map (·.1))
 | .own _=>∃ o,h.get? a=some o
 | .xd fs=>∃ mA,h.Ns1 a mA∧∀ f,RelO (fs.lookup f) (mA f)
 | .rng lo hi=>∃ t u v,h.get? a=some { cls:= .type "range",data:= .fields #[.int lo t,.int hi u,.int 1 v] }
 | .frz o u=>h.get? a=some o∧q1n H h a u
 | .tbl ps=>h.get? a=some { cls:= .none,data:= .fields ps }
 | .met f x=>h.get? a=some (PySem.W.methodObj (.ref f) (.ref x))
 | .ext φ=>φ h∧(∃ o,h.get? a=some o)∧∀ h1 h2:Heap,φ h1→(∀ o,h1.get? a=some o→h2.get? a=some o)→φ h2
def HOk (H:Hp) (h:Heap):Prop:=∀ a o,H a=some o→q1n P w H h a o
end
section
variable {P:Program} {w:World} {H H':Hp} {h h':Heap} {a:Addr} {o:HO}
theorem q1n.lt (x:q1n P w H h a o):a < h.objs.size:=by
 cases o with
 | lst xs=>obtain⟨_,_,_,_,e⟩:=x;exact Heap.lt_size e
 | tup xs=>obtain⟨_,_,_,p⟩:=x;exact p.lt
 | dK kvs=>obtain⟨_,_,_,_,o,_,_,e,_⟩:=x;exact Heap.lt_size e
 | dT kvs=>obtain⟨_,_,_,_,o,_,_,e,_⟩:=x;exact Heap.lt_size e
 | set S n=>obtain⟨o,_,_,_,e,_⟩:=x;exact Heap.lt_size e
 | ins C dx fs=>obtain⟨_,_,_,e,_⟩:=x;exact Heap.lt_size e
 | own y=>obtain⟨_,e⟩:=x;exact Heap.lt_size e
 | xd fs=>obtain⟨_,⟨_,_,_,e,_⟩,_⟩:=x;exact Heap.lt_size e
 | rng lo hi=>obtain⟨_,_,_,e⟩:=x;exact Heap.lt_size e
 | frz ob u=>obtain⟨e,_⟩:=x;exact Heap.lt_size e
 | tbl ps=>exact Heap.lt_size (show h.get? a=some _ from x)
 | met f y=>exact Heap.lt_size (show h.get? a=some _ from x)
 | ext φ=>obtain⟨_,⟨_,e⟩,_⟩:=x;exact Heap.lt_size e
theorem Paired.mapP {α β:Type} {F G:α→β→Prop}:∀ {l₁:List α} {l₂:List β},Paired F l₁ l₂→(∀ a b,F a b→G a b)→Paired G l₁ l₂
 | _,_,.nil,_=> .nil
 | _,_,.cons r t,f=> .cons (f _ _ r) (Paired.mapP t f)
theorem q1n.stay (x:q1n P w H h a o) (k:∀ b u,(b=a∨H b=some (.own a))→h.get? b=some u→h'.get? b=some u)
  (ho:∀ b,H b=some (.own a)→H' b=some (.own a)) (ht:∀ b xs,H b=some (.tup xs)→H' b=some (.tup xs)):q1n P w H' h' a o:=by
 induction o with
 | lst xs=>obtain⟨z,its,n,r,e⟩:=x;exact⟨z,its,n,r,k _ _ (.inl rfl) e⟩
 | tup xs=>obtain⟨z,its,r,ob,e,c⟩:=x;exact⟨z,its,r,ob,k _ _ (.inl rfl) e,c⟩
 | dK kvs=>obtain⟨z,y,vs,r,ob,es,ep,e,c⟩:=x;exact⟨z,y,vs,r,ob,es,ep,k _ _ (.inl rfl) e,c⟩
 | dT kvs =>
  obtain⟨z,y,xs,r,ob,es,ep,e,c⟩:=x
  exact⟨z,y,xs,Paired.mapP r fun p q z=>⟨z.1,ht _ _ z.2.1,z.2.2⟩,ob,es,ep,k _ _ (.inl rfl) e,c⟩
 | set S n=>obtain⟨ob,es,ep,t,e,c⟩:=x;exact⟨ob,es,ep,t,k _ _ (.inl rfl) e,c⟩
 | ins C dx fs =>
  obtain⟨d,z,ne,e,mA,⟨od,es,ep,e2,c⟩,r⟩:=x
  exact⟨ho _ d,z,ne,k _ _ (.inl rfl) e,mA,⟨od,es,ep,k _ _ (.inr d) e2,c⟩,r⟩
 | own y=>obtain⟨ob,e⟩:=x;exact⟨ob,k _ _ (.inl rfl) e⟩
 | xd fs=>obtain⟨mA,⟨od,es,ep,e,c⟩,r⟩:=x;exact⟨mA,⟨od,es,ep,k _ _ (.inl rfl) e,c⟩,r⟩
 | rng lo hi=>obtain⟨t,u,v,e⟩:=x;exact⟨t,u,v,k _ _ (.inl rfl) e⟩
 | frz ob u ih=>obtain⟨e,q⟩:=x;exact⟨k _ _ (.inl rfl) e,ih q⟩
 | tbl ps =>
  have e:h.get? a=some { cls:= .none,data:= .fields ps }:=x
  show h'.get? a=some { cls:= .none,data:= .fields ps }
  exact k a _ (.inl rfl) e
 | met f y =>
  have e:h.get? a=some (PySem.W.methodObj (.ref f) (.ref y)):=x
  show h'.get? a=some (PySem.W.methodObj (.ref f) (.ref y))
  exact k a _ (.inl rfl) e
 | ext φ=>obtain⟨p,⟨o,e⟩,st⟩:=x;exact⟨st _ _ p fun o q=>k _ _ (.inl rfl) q,⟨o,k _ _ (.inl rfl) e⟩,st⟩
theorem HOk.lt (x:HOk P w H h) (e:H a=some o):a < h.objs.size:=(x a o e).lt
theorem HOk.fresh (x:HOk P w H h) (e:h.objs.size≤a):H a=none:=by
 cases q:H a with
 | none=>rfl
 | some u=>exact absurd (Nat.lt_of_lt_of_le (x.lt q) e) (Nat.lt_irrefl _)
theorem HOk.kept (x:HOk P w H h) (k:∀ b u,h.get? b=some u→h'.get? b=some u):HOk P w H h':=fun a o e =>
 (x a o e).stay (fun b u _ q=>k b u q) (fun _ q=>q) fun _ _ q=>q
theorem HOk.laid (x:HOk P w H h) (k:∀ b u,h.get? b=some u→h'.get? b=some u) (hp:h.objs.size≤a) (new:q1n P w (upd H a o) h' a o):HOk P w (upd H a o) h':=fun b u e=>by
 have hn:=x.fresh hp
 by_cases hb:b=a
 ·subst hb;rw[q03]at e;cases e;exact new
 ·rw[q0b hb]at e
  exact(x b u e).stay (fun c v _ q=>k c v q) (fun c q=>by rw[q0b (q0d q hn)];exact q) fun c xs q=>by rw[q0b (q0d q hn)];exact q
end
def Rd (H:Hp) (a:Addr) (u:HO):Prop:=H a=some u∨∃ o,H a=some (.frz o u)
theorem Rd.ok {P:Program} {w:World} {H:Hp} {h:Heap} {a:Addr} {u:HO} (r:Rd H a u) (x:HOk P w H h):q1n P w H h a u:=by
 rcases r with r | ⟨o,r⟩
 ·exact x a u r
 ·obtain⟨_,q⟩:=x a _ r
  exact q
def Mut:Option HO→Prop
 | some (.lst _)=>True
 | some (.dK _)=>True
 | some (.dT _)=>True
 | some (.set _ _)=>True
 | some (.ins _ _ _)=>True
 | some (.ext _)=>True
 | _=>False
section
variable {P:Program} {w:World} {H:Hp} {h h':Heap} {x e:Addr} {o':HO}
theorem HOk.write (ok:HOk P w H h) (mu:Mut (H x)) (he:e=x∨H e=some (.own x)) (k:∀ b u,b ≠ e→h.get? b=some u→h'.get? b=some u) (heo:∃ u,h'.get? e=some u)
  (new:q1n P w (upd H x o') h' x o'):HOk P w (upd H x o') h':=fun b u q=>by
 have nown:∀ c y,H c=some (.own y)→c ≠ x:=fun c y r z=>by subst z;rw[r]at mu;exact mu
 have ntup:∀ c xs,H c=some (.tup xs)→c ≠ x:=fun c xs r z=>by subst z;rw[r]at mu;exact mu
 by_cases hb:b=x
 ·subst hb;rw[q03]at q;cases q;exact new
 ·rw[q0b hb]at q
  by_cases hbe:b=e
  ·have q':H b=some (.own x):=by
    rcases he with z | z
    ·exact absurd (hbe.trans z) hb
    ·rw[hbe];exact z
   rw[q]at q';cases q'
   obtain⟨v,hv⟩:=heo
   exact⟨v,by rw[hbe];exact hv⟩
  ·refine(ok b u q).stay (fun c v hc r=>k c v ?_ r) (fun c r=>by rw[q0b (nown c b r)];exact r) fun c xs r=>by rw[q0b (ntup c xs r)];exact r
   rcases hc with rfl | hc
   ·exact hbe
   ·rintro rfl
    rcases he with z | z
    ·exact nown c b hc z
    ·rw[hc]at z;cases z;exact hb rfl
end
structure Un (fs ex:List Addr) (H H':Hp) (h h':Heap):Prop where
 keep:∀ b o,h.get? b=some o→H b=none→b ∉ fs→b ∉ ex→h'.get? b=some o
 slot:∀ b o,h.get? b=some o→H b=none→b ∈ fs→b ∉ ex→∃ sl,h'.get? b=some { o with slots:=sl }
 free:∀ b o,h.get? b=some o→H b=none→b ∉ ex→H' b=none
 there:∀ b o,h.get? b=some o→b ∉ ex→∃ o',h'.get? b=some o'
 tups:∀ b xs,H b=some (.tup xs)→H' b=some (.tup xs)
 frzs:∀ b o u,H b=some (.frz o u)→H' b=some (.frz o u)
 tbls:∀ b ps,H b=some (.tbl ps)→∃ more,H' b=some (.tbl (ps ++ more))
section
variable {fs fs' ex ex':List Addr} {H H1 H2:Hp} {h h1 h2 h':Heap} {a x e:Addr} {o:HO}
theorem Un.any (u:Un fs ex H H1 h h1) {b:Addr} {ob:Obj} (q:h.get? b=some ob) (n:H b=none) (hx:b ∉ ex):∃ sl,h1.get? b=some { ob with slots:=sl }:=by
 by_cases hb:b ∈ fs
 ·exact u.slot b ob q n hb hx
 ·exact⟨ob.slots,u.keep b ob q n hb hx⟩
theorem Un.kept (k:∀ b u,h.get? b=some u→h'.get? b=some u):Un fs ex H H h h' :=
 ⟨fun b ob q _ _ _=>k b ob q,fun b ob q _ _ _=>⟨ob.slots,k b ob q⟩,fun _ _ _ n _=>n,fun b ob q _=>⟨ob,k b ob q⟩,fun _ _ q=>q,fun _ _ _ q=>q,fun _ ps q=>⟨#[],by rw[q];simp⟩⟩
theorem Un.refl:Un fs ex H H h h:=Un.kept fun _ _ q=>q
theorem Un.laid (k:∀ b u,h.get? b=some u→h'.get? b=some u) (hp:h.objs.size≤a) (hn:H a=none):Un fs ex H (upd H a o) h h' where
 keep:=fun b u q _ _ _=>k b u q
 slot:=fun b u q _ _ _=>⟨u.slots,k b u q⟩
 free:=fun b u q n _=>by rw[q0b (Nat.ne_of_lt (Nat.lt_of_lt_of_le (Heap.lt_size q) hp))];exact n
 there:=fun b u q _=>⟨u,k b u q⟩
 tups:=fun b xs q=>by rw[q0b (q0d q hn)];exact q
 frzs:=fun b u xs q=>by rw[q0b (q0d q hn)];exact q
 tbls:=fun b ps q=>⟨#[],by rw[q0b (q0d q hn),q];simp⟩
theorem Un.write (mu:Mut (H x)) (he:e=x∨H e=some (.own x)) (k:∀ b u,b ≠ e→h.get? b=some u→h'.get? b=some u) (heo:∃ u,h'.get? e=some u):Un fs ex H (upd H x o) h h':=by
 have hx:∀ b,H b=none→b ≠ x:=fun b n z=>by subst z;rw[n]at mu;exact mu
 have hb:∀ b,H b=none→b ≠ e:=fun b n z=>by
  subst z
  rcases he with r | r
  ·exact hx b n r
  ·rw[n]at r;cases r
 have hm:∀ b u,H b=some u→¬ Mut (some u)→b ≠ x:=fun b u q nm z=>by subst z;rw[q]at mu;exact nm mu
 refine⟨fun b u q n _ _=>k b u (hb b n) q,fun b u q n _ _=>⟨u.slots,k b u (hb b n) q⟩,fun b u q n _=>by rw[q0b (hx b n)];exact n,fun b u q _=> ?_,
  fun b xs q=>by rw[q0b (hm b _ q fun z=>z)];exact q,fun b u xs q=>by rw[q0b (hm b _ q fun z=>z)];exact q,fun b ps q=>⟨#[],by rw[q0b (hm b _ q fun z=>z),q];simp⟩⟩
 by_cases hbe:b=e
 ·subst hbe;exact heo
 ·exact⟨u,k b u hbe q⟩
end
def trk (h:Heap) (H:Hp):List Addr:=(List.range h.objs.size).filter fun a=>(H a).isSome
def hidT (h:Heap) (H:Hp):Heap:=PySem.W.hideAll h (trk h H)
theorem qdp (h:Heap) (H:Hp):(hidT h H).objs.size=h.objs.size:=PySem.W.hideAll_size _ _
theorem qer {h:Heap} {H:Hp} {b:Addr} {o:Obj} (e:h.get? b=some o) (n:H b=none):(hidT h H).get? b=some o :=
 PySem.W.hideAll_get _ e fun hm=>by
  have q:(H b).isSome=true:=(List.mem_filter.mp hm).2
  rw[n]at q;simp at q
theorem qik {h:Heap} {H:Hp} {b:Addr} {o:Obj} (e:(hidT h H).get? b=some o):h.get? b=some o∧H b=none:=by
 have e':h.get? b=some o:=PySem.W.of_hideAll (trk h H) e
 refine⟨e',?_⟩
 cases q:H b with
 | none=>rfl
 | some x =>
  have hm:b ∈ trk h H:=List.mem_filter.mpr ⟨List.mem_range.mpr (Heap.lt_size e'),by simp[q]⟩
  have z:(hidT h H).get? b=none:=PySem.W.hideAll_none (trk h H) hm
  rw[z]at e;cases e
end L2
namespace L2
open PySem PySem.Spec PyProof.Rows
structure Mod (K:PySem.W.Frag) (mg:Str→Option Value) (base:Heap):Prop where
 kin:K.In base
 glob:base.Ns mainGlobals mg
 blt:∃ mb,base.Ns builtinsNs mb∧∀ x:Str,x ≠ "__name__" → mb x=bootBuiltins x
 nolimit:base.NoLimit
structure Cx where
 prog:Program
 w:World
 K:PySem.W.Frag
 mg:Str→Option Value
 base:Heap
 A:Around
 N:List Str
 s₀:Shared
 H₀:Hp
 env:Env
 outer:List Env
 stack:List Env
 ex:List Addr
 fn:Str→Bool
 calm:Bool
 pn:List (Addr×Obj)
 xe:Value→Shared→Prop
def frs (l:List Env):List Addr:=l.filterMap (·.frame)
abbrev Cx.fs (X:Cx):List Addr:=frs X.outer
def Vis (sc:Scope) (x:Str):Prop:=sc.names.lookup x=some .local∨sc.names.lookup x=some .cell∨sc.names.lookup x=some .free
def Loc (sc:Scope) (x:Str):Prop:=sc.names.lookup x=some .local∨sc.names.lookup x=some .cell
def Look (env:Env) (h:Heap) (m:Str→Option Value) (x:Str) (u:Value):Prop :=
 (env.kindOf x=some .local∧m x=some u)∨((env.kindOf x=some .cell∨env.kindOf x=some .free)∧∃ c,env.cells.lookup x=some c∧h.IsCell c (some u))
structure Cx.Ok (X:Cx):Prop where
 mod:Mod X.K X.mg X.base
 kind:X.env.scope.kind= .function
 glob:X.env.globals=mainGlobals
 blt:X.env.builtins=builtinsNs
 above:X.s₀.heap.objs.size≤X.env.locals
 inj:∀ x y c,X.env.cells.lookup x=some c→X.env.cells.lookup y=some c→x=y
 has:∀ x,(X.env.kindOf x=some .cell∨X.env.kindOf x=some .free)→∃ c,X.env.cells.lookup x=some c
 cab:∀ x c,X.fn x=true→X.env.cells.lookup x=some c→X.s₀.heap.objs.size≤c
 hd:X.calm=true→X.A.handled=none
 frames:X.A.frames=some X.stack
 stk:X.stack=X.outer∨(X.stack=X.env :: X.outer∧X.env.frame=some X.env.locals)
 exf:∀ b ∈ X.ex,b ≠ X.env.locals∧∀ x c,X.env.cells.lookup x=some c→c ≠ b
 bs:∀ b o,X.base.get? b=some o→X.s₀.heap.get? b=some o∧X.H₀ b=none
 bsz:X.base.objs.size≤X.s₀.heap.objs.size
 noex:∀ b o,X.base.get? b=some o→b ∉ X.ex
 exfs:∀ b ∈ X.ex,b ∉ X.fs
 funs:X.s₀.heap.FunFrames X.base X.outer
 frf:∀ b ∈ X.fs,X.H₀ b=none
structure Inv (X:Cx) (pins:List (Addr×Obj)) (σ:List (Option V)) (H:Hp) (s:Shared):Prop where
 ok:X.Ok
 os:s.os=X.s₀.os
 bare:AllBare s.gens
 base:Un X.fs X.ex X.H₀ H X.s₀.heap s.heap
 loc:∃ m,s.heap.Ns X.env.locals m∧∀ (i:Nat) (x:Str) (v:V),X.N[i]? = some x→σ[i]? = some (some v)→Vis X.env.scope x→∃ u,RelV v u∧Look X.env s.heap m x u
 cell:∀ x c,X.env.cells.lookup x=some c→∃ v,s.heap.IsCell c v
 free:H X.env.locals=none
 freeC:∀ x c,X.env.cells.lookup x=some c→H c=none
 pin:∀ p ∈ X.pn ++ pins,s.heap.get? p.1=some p.2∧H p.1=none∧p.1 ≠ X.env.locals∧p.1 ∉ X.fs∧∀ v,p.2.data ≠ .cell v
 hok:HOk X.prog X.w H s.heap
 len:σ.length=X.N.length
section
variable {X:Cx} {pins:List (Addr×Obj)} {σ:List (Option V)} {H H':Hp} {s:Shared} {h':Heap}
theorem Cx.Ok.nofr (ok:X.Ok) {b:Addr} {o:Obj} (e:X.base.get? b=some o):b ∉ X.fs:=fun hb=>by
 have:=(ok.funs.mem hb).1
 rw[e]at this;cases this
theorem Inv.bs (I:Inv X pins σ H s):∀ b o,X.base.get? b=some o→s.heap.get? b=some o∧H b=none:=fun b o e =>
 ⟨I.base.keep b o (I.ok.bs b o e).1 (I.ok.bs b o e).2 (I.ok.nofr e) (I.ok.noex b o e),I.base.free b o (I.ok.bs b o e).1 (I.ok.bs b o e).2 (I.ok.noex b o e)⟩
theorem Inv.bk (I:Inv X pins σ H s):∀ b o,X.base.get? b=some o→s.heap.get? b=some o:=fun b o e=>(I.bs b o e).1
theorem Inv.mod (I:Inv X pins σ H s):Mod X.K X.mg X.base:=I.ok.mod
theorem Inv.kIn (I:Inv X pins σ H s):X.K.In s.heap:=I.ok.mod.kin.keeps I.bk
theorem Inv.lt (I:Inv X pins σ H s):X.env.locals < s.heap.objs.size:=let ⟨_,hn,_⟩:=I.loc;hn.lt
theorem Inv.sz (I:Inv X pins σ H s):X.s₀.heap.objs.size≤s.heap.objs.size:=Nat.le_trans I.ok.above (Nat.le_of_lt I.lt)
theorem Inv.nofs (I:Inv X pins σ H s) {a:Addr} (h:s.heap.objs.size≤a):a ∉ X.fs:=fun hb=>by
 obtain⟨_,o,ho,_⟩:=I.ok.funs.mem hb
 exact absurd (Nat.lt_of_lt_of_le (Heap.lt_size ho) (Nat.le_trans I.sz h)) (Nat.lt_irrefl _)
theorem Inv.cne (I:Inv X pins σ H s):∀ x c,X.env.cells.lookup x=some c→c ≠ X.env.locals:=fun x c e z=>by
 obtain⟨v,o,ho,hd⟩:=I.cell x c e
 obtain⟨m,⟨o',es,ep,ho',hd',_⟩,_⟩:=I.loc
 rw[z,ho']at ho;cases ho;rw[hd']at hd;cases hd
theorem Inv.funs (I:Inv X pins σ H s):s.heap.FunFrames X.base X.outer:=by
 have all:∀ (l:List Env),(∀ b ∈ frs l,b ∈ X.fs)→X.s₀.heap.FunFrames X.base l→s.heap.FunFrames X.base l:=by
  intro l
  induction l with
  | nil=>intro _ _;trivial
  | cons env r ih =>
   intro hs hl
   obtain⟨hk,⟨L,o,hf,hn,ho,hd⟩,hr⟩:=hl
   have hL:L ∈ X.fs:=hs L (by unfold frs;rw[List.filterMap_cons,hf];exact List.mem_cons_self)
   obtain⟨sl,e⟩:=I.base.slot L o ho (I.ok.frf L hL) hL fun z=>I.ok.exfs L z hL
   exact⟨hk,⟨L,_,hf,hn,e,hd⟩,ih (fun b hb=>hs b (by unfold frs;rw[List.filterMap_cons,hf];exact List.mem_cons_of_mem _ hb)) hr⟩
 exact all X.outer (fun _ hb=>hb) I.ok.funs
theorem Inv.stack (I:Inv X pins σ H s):s.heap.FunFrames X.base X.stack:=by
 rcases I.ok.stk with e | ⟨e,hf⟩
 ·rw[e];exact I.funs
 ·rw[e]
  obtain⟨m,hn,_⟩:=I.loc
  refine .cons (by rw[I.ok.kind];decide) hf hn ?_ I.funs
  exact Heap.get?_none_of_le (Nat.le_trans I.ok.bsz I.ok.above)
theorem Inv.stkSub (I:Inv X pins σ H s):∀ b ∈ frs X.stack,b ∈ X.env.locals :: X.fs:=fun b hb=>by
 rcases I.ok.stk with e | ⟨e,hf⟩
 ·rw[e]at hb;exact List.mem_cons_of_mem _ hb
 ·rw[e]at hb
  unfold frs at hb
  rw[List.filterMap_cons,hf]at hb
  exact hb
theorem Inv.stkFree (I:Inv X pins σ H s):∀ b ∈ frs X.stack,H b=none:=fun b hb=>by
 rcases List.mem_cons.mp (I.stkSub b hb) with e | hb
 ·rw[e];exact I.free
 ·obtain⟨_,o,ho,_⟩:=I.ok.funs.mem hb
  exact I.base.free b o ho (I.ok.frf b hb) fun z=>I.ok.exfs b z hb
theorem Inv.step {g':Array GenState} {t':Nat} {d':Drawn} {ch:List Addr} (I:Inv X pins σ H s)
  (hch:∀ b ∈ ch,(b ∈ X.ex∨X.s₀.heap.objs.size≤b)∧b ≠ X.env.locals∧(∀ x c,X.env.cells.lookup x=some c→c ≠ b)∧∀ p ∈ X.pn ++ pins,p.1 ≠ b)
  (keep:∀ b o,b ≠ X.env.locals→b ∉ X.fs→b ∉ ch→s.heap.get? b=some o→H b=none→h'.get? b=some o)
  (slot:∀ b o,b ≠ X.env.locals→b ∈ X.fs→b ∉ ch→s.heap.get? b=some o→H b=none→∃ sl,h'.get? b=some { o with slots:=sl }) (free:∀ b o,b ∉ ch→s.heap.get? b=some o→H b=none→H' b=none)
  (there:∀ b o,b ∉ ch→s.heap.get? b=some o→∃ o',h'.get? b=some o')
  (tups:∀ b xs,H b=some (.tup xs)→H' b=some (.tup xs)) (frzs:∀ b o u,H b=some (.frz o u)→H' b=some (.frz o u)) (tbls:∀ b ps,H b=some (.tbl ps)→∃ more,H' b=some (.tbl (ps ++ more)))
  (ns:∀ m,s.heap.Ns X.env.locals m→h'.Ns X.env.locals m) (hok:HOk X.prog X.w H' h') (hg:AllBare g') :
  Inv X pins σ H' { s with heap:=h',gens:=g',drawn:=d',toks:=t' }:=by
 have neL:∀ b o,X.s₀.heap.get? b=some o→b ≠ X.env.locals:=fun b o e=>Nat.ne_of_lt (Nat.lt_of_lt_of_le (Heap.lt_size e) I.ok.above)
 have neC:∀ b o,X.s₀.heap.get? b=some o→b ∉ X.ex→b ∉ ch:=fun b o e hx hb=>by
  rcases (hch b hb).1 with z | z
  ·exact hx z
  ·exact absurd (Nat.lt_of_lt_of_le (Heap.lt_size e) z) (Nat.lt_irrefl _)
 have cellK:∀ x c,X.env.cells.lookup x=some c→∀ v,s.heap.IsCell c v→h'.IsCell c v:=fun x c e v ⟨o,ho,hd⟩=>by
  have nch:c ∉ ch:=fun z=>(hch c z).2.2.1 x c e rfl
  by_cases hc:c ∈ X.fs
  ·obtain⟨sl,q⟩:=slot c o (I.cne x c e) hc nch ho (I.freeC x c e)
   exact⟨_,q,hd⟩
  ·exact⟨o,keep c o (I.cne x c e) hc nch ho (I.freeC x c e),hd⟩
 refine⟨I.ok,I.os,hg,⟨fun b o e n hb hx=> ?_,fun b o e n hb hx=> ?_,fun b o e n hx=> ?_,fun b o e hx=> ?_,fun b xs e=>tups b xs (I.base.tups b xs e),fun b o xs e=>frzs b o xs (I.base.frzs b o xs e),fun b ps e=> ?_⟩,?_,fun x c e=> ?_,?_,fun x c e=> ?_,fun p hp=> ?_,hok,I.len⟩
 ·exact keep b o (neL b o e) hb (neC b o e hx) (I.base.keep b o e n hb hx) (I.base.free b o e n hx)
 ·obtain⟨sl,e1⟩:=I.base.slot b o e n hb hx
  obtain⟨sl',e2⟩:=slot b _ (neL b o e) hb (neC b o e hx) e1 (I.base.free b o e n hx)
  exact⟨sl',e2⟩
 ·obtain⟨o',e1⟩:=I.base.there b o e hx
  exact free b o' (neC b o e hx) e1 (I.base.free b o e n hx)
 ·obtain⟨o',e1⟩:=I.base.there b o e hx
  exact there b o' (neC b o e hx) e1
 ·obtain⟨m1,e1⟩:=I.base.tbls b ps e
  obtain⟨m2,e2⟩:=tbls b _ e1
  exact⟨m1 ++ m2,by rw[e2,Array.append_assoc]⟩
 ·obtain⟨m,hn,hl⟩:=I.loc
  refine⟨m,ns m hn,fun i x v e1 e2 e3=> ?_⟩
  obtain⟨u,r,l⟩:=hl i x v e1 e2 e3
  refine⟨u,r,?_⟩
  rcases l with l | ⟨k,c,e,z⟩
  ·exact .inl l
  ·exact .inr ⟨k,c,e,cellK x c e _ z⟩
 ·obtain⟨v,z⟩:=I.cell x c e
  exact⟨v,cellK x c e v z⟩
 ·obtain⟨m,⟨o,_,_,ho,_⟩,_⟩:=I.loc
  exact free _ o (fun z=>(hch _ z).2.1 rfl) ho I.free
 ·obtain⟨v,o,ho,hd⟩:=I.cell x c e
  exact free c o (fun z=>(hch c z).2.2.1 x c e rfl) ho (I.freeC x c e)
 ·obtain⟨e,n,ne,nf,d⟩:=I.pin p hp
  have nch:p.1 ∉ ch:=fun z=>(hch p.1 z).2.2.2 p hp rfl
  exact⟨keep p.1 p.2 ne nf nch e n,free p.1 p.2 nch e n,ne,nf,d⟩
theorem Inv.un {t':Nat} (I:Inv X pins σ H s) (u:Un X.fs [] H H' s.heap h') (hok:HOk X.prog X.w H' h'):Inv X pins σ H' { s with heap:=h',toks:=t' }:=by
 obtain⟨m,⟨o,es,ep,ho,r⟩,_⟩:=id I.loc
 obtain⟨sl,hL⟩:=u.any ho I.free (by simp)
 exact I.step (g':=s.gens) (d':=s.drawn) (ch:=[]) (fun _ z=>nomatch z) (fun b o _ hb _ e n=>u.keep b o e n hb (by simp)) (fun b o _ hb _ e n=>u.slot b o e n hb (by simp)) (fun b o _ e n=>u.free b o e n (by simp)) (fun b o _ e=>u.there b o e (by simp)) u.tups u.frzs u.tbls (fun m' hm=>by
  obtain⟨o',es',ep',ho',r'⟩:=hm
  rw[ho]at ho';cases ho'
  exact⟨_,es',ep',hL,r'⟩) hok I.bare
theorem Inv.call {g':Array GenState} {t':Nat} {d':Drawn} {ch:List Addr} (I:Inv X pins σ H s) (u:Un (frs X.stack) ch H H' s.heap h') (hok:HOk X.prog X.w H' h') (hg:AllBare g')
  (hch:∀ b ∈ ch,(b ∈ X.ex∨X.s₀.heap.objs.size≤b)∧b ≠ X.env.locals∧(∀ x c,X.env.cells.lookup x=some c→c ≠ b)∧∀ p ∈ X.pn ++ pins,p.1 ≠ b) :
  Inv X pins σ H' { s with heap:=h',gens:=g',drawn:=d',toks:=t' }:=by
 obtain⟨m,⟨o,es,ep,ho,r⟩,_⟩:=id I.loc
 obtain⟨sl,hL⟩:=u.any ho I.free fun z=>(hch _ z).2.1 rfl
 exact I.step (ch:=ch) hch (fun b o hL hb hc e n=>u.keep b o e n (fun z=>(List.mem_cons.mp (I.stkSub b z)).elim hL hb) hc) (fun b o _ _ hc e n=>u.any e n hc) (fun b o hc e n=>u.free b o e n hc) (fun b o hc e=>u.there b o e hc) u.tups u.frzs u.tbls (fun m' hm=>by
  obtain⟨o',es',ep',ho',r'⟩:=hm
  rw[ho]at ho';cases ho'
  exact⟨_,es',ep',hL,r'⟩) hok hg
theorem Inv.turned {t':Nat} {it:Addr} (I:Inv X pins σ H s) (k:∀ b o,b ≠ it→s.heap.get? b=some o→h'.get? b=some o) (hn:H it=none) (hL:it ≠ X.env.locals)
  (h1:it ∈ X.ex∨X.s₀.heap.objs.size≤it) (h2:∀ x c,X.env.cells.lookup x=some c→c ≠ it) (h3:∀ p ∈ X.pn ++ pins,p.1 ≠ it):Inv X pins σ H { s with heap:=h',toks:=t' }:=by
 have nit:∀ b u,H b=some u→b ≠ it:=fun b u e z=>by rw[z,hn]at e;cases e
 refine I.step (g':=s.gens) (d':=s.drawn) (ch:=[it]) (fun b hb=> ?_) (fun b o _ _ hc e _=>k b o (fun z=>hc (by simp[z])) e) (fun b o _ _ hc e _=>⟨o.slots,k b o (fun z=>hc (by simp[z])) e⟩) (fun _ _ _ _ n=>n)
  (fun b o hc e=>⟨o,k b o (fun z=>hc (by simp[z])) e⟩) (fun _ _ e=>e) (fun _ _ _ e=>e) (fun b ps e=>⟨#[],by rw[e];simp⟩) (fun m hm=> ?_) (fun b u e=> ?_) I.bare
 ·have e:b=it:=by simpa using hb
  subst e
  exact⟨h1,hL,h2,h3⟩
 ·obtain⟨o,es,ep,ho,r⟩:=hm
  exact⟨o,es,ep,k _ o (Ne.symm hL) ho,r⟩
 ·refine(I.hok b u e).stay (fun c v hc q=>k c v ?_ q) (fun _ q=>q) fun _ _ q=>q
  rcases hc with z | z
  ·rw[z];exact nit b u e
  ·exact nit c _ z
theorem Inv.tok (I:Inv X pins σ H s) (t:Nat):Inv X pins σ H { s with toks:=t }:=I.un (h':=s.heap) (t':=t) Un.refl I.hok
theorem Inv.kept {t':Nat} (I:Inv X pins σ H s) (k:∀ b u,s.heap.get? b=some u→h'.get? b=some u):Inv X pins σ H { s with heap:=h',toks:=t' }:=I.un (Un.kept k) (I.hok.kept k)
theorem Inv.laid {a:Addr} {o:HO} {t':Nat} (I:Inv X pins σ H s) (k:∀ b u,s.heap.get? b=some u→h'.get? b=some u) (hp:s.heap.objs.size≤a) (new:q1n X.prog X.w (upd H a o) h' a o) :
  Inv X pins σ (upd H a o) { s with heap:=h',toks:=t' }:=I.un (Un.laid k hp (I.hok.fresh hp)) (I.hok.laid k hp new)
theorem Inv.write {x e:Addr} {o:HO} {t':Nat} (I:Inv X pins σ H s) (mu:Mut (H x)) (he:e=x∨H e=some (.own x)) (k:∀ b u,b ≠ e→s.heap.get? b=some u→h'.get? b=some u) (heo:∃ u,h'.get? e=some u)
  (new:q1n X.prog X.w (upd H x o) h' x o):Inv X pins σ (upd H x o) { s with heap:=h',toks:=t' }:=I.un (Un.write mu he k heo) (I.hok.write mu he k heo new)
theorem Inv.pins_of {pins':List (Addr×Obj)} (I:Inv X pins σ H s) (h:∀ p ∈ pins',s.heap.get? p.1=some p.2∧H p.1=none∧p.1 ≠ X.env.locals∧p.1 ∉ X.fs∧∀ v,p.2.data ≠ .cell v):Inv X pins' σ H s :=
 ⟨I.ok,I.os,I.bare,I.base,I.loc,I.cell,I.free,I.freeC,fun p hp=>(List.mem_append.mp hp).elim (fun z=>I.pin p (List.mem_append_left _ z)) (h p),I.hok,I.len⟩
theorem q9w {N:List Str} (hN:N.Nodup) {i j:Nat} {x:Str} (a:N[i]? = some x) (b:N[j]? = some x):i=j:=by
 obtain⟨h1,e1⟩:=List.getElem?_eq_some_iff.mp a
 obtain⟨h2,e2⟩:=List.getElem?_eq_some_iff.mp b
 exact(List.getElem_inj hN).mp (e1.trans e2.symm)
theorem q8o {M:Model} {A:Around} {E:Value→Shared→Prop} {i:Nat} {x:Str} {v:V} {u:Value} {Q:Unit→Shared→Prop} (I:Inv X pins σ H s) (hN:X.N.Nodup) (hi:X.N[i]? = some x) (hx:Loc X.env.scope x) (r:RelV v u)
  (h:∀ s',Inv X pins (σ.set i (some v)) H s'→(∃ a,Heap.SameBut a s.heap s'.heap∧(a=X.env.locals∨X.env.cells.lookup x=some a))→Q () s') (hf:X.fn x=true∨X.env.scope.names.lookup x=some .local:=by first | exact .inl rfl | exact .inr rfl | assumption):wpAny M A (storeName X.env x u) Q E s:=by
 obtain⟨m,hn,hl⟩:=id I.loc
 have hcls:(X.env.scope.kind == .class || (X.env.scope.kind == .module && X.env.locals != X.env.globals))=false:=by rw[I.ok.kind];rfl
 have hiσ:i < σ.length:=by rw[I.len];exact(List.getElem?_eq_some_iff.mp hi).1
 have cne:=I.cne
 have tracked:∀ {a:Addr} {h':Heap},(∃ o,s.heap.get? a=some o∧H a=none)→Heap.SameBut a s.heap h'→HOk X.prog X.w H h':=fun {a h'} ha hs b ob e=>by
  obtain⟨_,_,hfree⟩:=ha
  refine(I.hok b ob e).stay (fun c w' hc q=>(hs.2 c ?_).trans q) (fun _ q=>q) fun _ _ q=>q
  rintro rfl
  rcases hc with rfl | hc
  ·rw[hfree]at e;cases e
  ·rw[hfree]at hc;cases hc
 rcases hx with hk | hk
 ·refine wpAny_storeName_local hk hn (fun h' hn' hs=> ?_) hcls
  obtain⟨oL,_,_,hoL,_⟩:=id hn
  refine h _ ⟨I.ok,I.os,I.bare,⟨fun b o e n hb hx=> ?_,fun b o e n hb hx=> ?_,I.base.free,fun b o e hx=> ?_,I.base.tups,I.base.frzs,I.base.tbls⟩,⟨_,hn',fun j y v' e1 e2 e3=> ?_⟩,fun y c e=> ?_,I.free,I.freeC,fun p hp=> ?_,tracked ⟨oL,hoL,I.free⟩ hs,by simpa using I.len⟩ ⟨_,hs,.inl rfl⟩
  ·exact(hs.2 b (Nat.ne_of_lt (Nat.lt_of_lt_of_le (Heap.lt_size e) I.ok.above))).trans (I.base.keep b o e n hb hx)
  ·obtain⟨sl,e1⟩:=I.base.slot b o e n hb hx
   exact⟨sl,(hs.2 b (Nat.ne_of_lt (Nat.lt_of_lt_of_le (Heap.lt_size e) I.ok.above))).trans e1⟩
  ·obtain⟨o',e1⟩:=I.base.there b o e hx
   exact⟨o',(hs.2 b (Nat.ne_of_lt (Nat.lt_of_lt_of_le (Heap.lt_size e) I.ok.above))).trans e1⟩
  ·by_cases hj:j=i
   ·subst hj
    rw[hi]at e1;cases e1
    rw[List.getElem?_set_self hiσ]at e2
    cases e2
    exact⟨u,r,.inl ⟨hk,by simp⟩⟩
   ·rw[List.getElem?_set_ne (Ne.symm hj)]at e2
    obtain⟨u',r',q⟩:=hl j y v' e1 e2 e3
    refine⟨u',r',?_⟩
    rcases q with ⟨k,e⟩ | ⟨k,c,e,z⟩
    ·refine .inl ⟨k,?_⟩
     have:y ≠ x:=fun e=>hj (q9w hN e1 (e ▸ hi))
     simp[this,e]
    ·exact .inr ⟨k,c,e,z.sameBut hs (cne y c e)⟩
  ·obtain⟨w',z⟩:=I.cell y c e
   exact⟨w',z.sameBut hs (cne y c e)⟩
  ·obtain⟨e,n,ne,nf,d⟩:=I.pin p hp
   exact⟨(hs.2 p.1 ne).trans e,n,ne,nf,d⟩
 ·have hfn:X.fn x=true:=by
   rcases hf with z | z
   ·exact z
   ·rw[z]at hk;cases hk
  obtain⟨c,hc⟩:=I.ok.has x (.inl hk)
  obtain⟨w',z⟩:=I.cell x c hc
  refine wpAny_storeName_cell I.ok.kind hk hc z (fun h' hc' hs=> ?_)
  obtain⟨oc,hoc,hocd⟩:=id z
  refine h { s with heap:=h' } ⟨I.ok,I.os,I.bare,⟨fun b o e n hb hx=> ?_,fun b o e n hb hx=> ?_,I.base.free,fun b o e hx=> ?_,I.base.tups,I.base.frzs,I.base.tbls⟩,⟨m,hn.sameBut hs (Ne.symm (cne x c hc)),fun j y v' e1 e2 e3=> ?_⟩,fun y c' e=> ?_,I.free,I.freeC,fun p hp=> ?_,tracked ⟨oc,hoc,I.freeC x c hc⟩ hs,by simpa using I.len⟩ ⟨c,hs,.inr hc⟩
  ·exact(hs.2 b (Nat.ne_of_lt (Nat.lt_of_lt_of_le (Heap.lt_size e) (I.ok.cab x c hfn hc)))).trans (I.base.keep b o e n hb hx)
  ·obtain⟨sl,e1⟩:=I.base.slot b o e n hb hx
   exact⟨sl,(hs.2 b (Nat.ne_of_lt (Nat.lt_of_lt_of_le (Heap.lt_size e) (I.ok.cab x c hfn hc)))).trans e1⟩
  ·obtain⟨o',e1⟩:=I.base.there b o e hx
   exact⟨o',(hs.2 b (Nat.ne_of_lt (Nat.lt_of_lt_of_le (Heap.lt_size e) (I.ok.cab x c hfn hc)))).trans e1⟩
  ·by_cases hj:j=i
   ·subst hj
    rw[hi]at e1;cases e1
    rw[List.getElem?_set_self hiσ]at e2
    cases e2
    exact⟨u,r,.inr ⟨.inl hk,c,hc,hc'⟩⟩
   ·rw[List.getElem?_set_ne (Ne.symm hj)]at e2
    obtain⟨u',r',q⟩:=hl j y v' e1 e2 e3
    refine⟨u',r',?_⟩
    rcases q with q | ⟨k,c',e,z'⟩
    ·exact .inl q
    ·refine .inr ⟨k,c',e,z'.sameBut hs ?_⟩
     rintro rfl
     exact hj (q9w hN e1 (I.ok.inj _ _ _ e hc ▸ hi))
  ·by_cases hcc:c'=c
   ·subst hcc;exact⟨_,hc'⟩
   ·obtain⟨w2,z2⟩:=I.cell y c' e
    exact⟨w2,z2.sameBut hs hcc⟩
  ·obtain⟨e,n,ne,nf,d⟩:=I.pin p hp
   refine⟨(hs.2 p.1 ?_).trans e,n,ne,nf,d⟩
   intro q
   rw[q,hoc]at e
   have q':oc=p.2:=Option.some.inj e
   exact d w' (by rw[← q'];exact hocd)
theorem q9l {M:Model} {A:Around} {E:Value→Shared→Prop} {i:Nat} {x:Str} {v:V} {u:Value} {Q:Unit→Shared→Prop} (I:Inv X pins σ H s) (hN:X.N.Nodup) (hi:X.N[i]? = some x) (hx:Loc X.env.scope x) (r:RelV v u)
  (h:∀ s',Inv X pins (σ.set i (some v)) H s'→Q () s') (hf:X.fn x=true∨X.env.scope.names.lookup x=some .local:=by first | exact .inl rfl | exact .inr rfl | assumption):wpAny M A (storeName X.env x u) Q E s :=
 q8o I hN hi hx r (fun s' I' _=>h s' I') hf
theorem Inv.call' {s':Shared} {ch:List Addr} (I:Inv X pins σ H s) (ho:s'.os=s.os) (u:Un (frs X.stack) ch H H' s.heap s'.heap) (hok:HOk X.prog X.w H' s'.heap) (hg:AllBare s'.gens)
  (hch:∀ b ∈ ch,(b ∈ X.ex∨X.s₀.heap.objs.size≤b)∧b ≠ X.env.locals∧(∀ x c,X.env.cells.lookup x=some c→c ≠ b)∧∀ p ∈ X.pn ++ pins,p.1 ≠ b):Inv X pins σ H' s':=by
 obtain⟨h',g',d',t',o'⟩:=s'
 have e:o'=s.os:=ho
 subst e
 exact I.call (g':=g') (t':=t') (d':=d') u hok hg hch
end
abbrev XK:=Value→Option Addr→Hp→Prop
abbrev St:=List (Option V)
abbrev VK:=V→Hp→Prop
abbrev TE:=St→Hp→VK→Prop
abbrev TT:=St→Hp→(Bool→Hp→Prop)→Prop
abbrev TA:=St→Hp→(List V→Hp→Prop)→Prop
structure Ends where
 nx:St→Hp→Prop
 rt:VK
 bk:St→Hp→Prop:=fun _ _=>False
 ct:St→Hp→Prop:=fun _ _=>False
abbrev TS:=Ends→St→Hp→Prop
def EP (X:Cx) (pins:List (Addr×Obj)) (σ:St) (Q:VK) (u:Value) (s':Shared):Prop:=∃ v H',Inv X pins σ H' s'∧RelV v u∧Q v H'
def TP (X:Cx) (pins:List (Addr×Obj)) (σ:St) (Q:Bool→Hp→Prop) (b:Bool) (s':Shared):Prop:=∃ H',Inv X pins σ H' s'∧Q b H'
def AP (X:Cx) (pins:List (Addr×Obj)) (σ:St) (Q:List V→Hp→Prop) (us:List Value) (s':Shared):Prop:=∃ vs H',Inv X pins σ H' s'∧Vals vs us∧Q vs H'
def SP (X:Cx) (pins:List (Addr×Obj)) (D:Ends) (f:Flow) (s':Shared):Prop :=
 match f with
 | .next=>∃ σ' H',Inv X pins σ' H' s'∧D.nx σ' H'
 | .brk=>∃ σ' H',Inv X pins σ' H' s'∧D.bk σ' H'
 | .cont=>∃ σ' H',Inv X pins σ' H' s'∧D.ct σ' H'
 | .ret u=>∃ v σ' H',Inv X pins σ' H' s'∧RelV v u∧D.rt v H'
def PE (X:Cx) (e:Expr) (t:TE):Prop :=
 ∀ (pins:List (Addr×Obj)) (s:Shared) (σ:St) (H:Hp) (Q:VK),Inv X pins σ H s→t σ H Q→wpAny (model X.prog X.w) X.A (eval e X.env) (EP X pins σ Q) X.xe s
def PT (X:Cx) (e:Expr) (t:TT):Prop :=
 ∀ (pins:List (Addr×Obj)) (s:Shared) (σ:St) (H:Hp) (Q:Bool→Hp→Prop),Inv X pins σ H s→t σ H Q→wpAny (model X.prog X.w) X.A (isTrue e X.env (eval e X.env)) (TP X pins σ Q) X.xe s
def PW (X:Cx) (e:Expr) (t:TT):Prop :=
 ∀ (whole:Sem Value) (pins:List (Addr×Obj)) (s:Shared) (σ:St) (H:Hp) (Q:Bool→Hp→Prop),Inv X pins σ H s→t σ H Q→wpAny (model X.prog X.w) X.A (isTrue e X.env whole) (TP X pins σ Q) X.xe s
theorem PW.pt {X:Cx} {e:Expr} {t:TT} (h:PW X e t):PT X e t:=h _
def PA (X:Cx) (es:List Expr) (t:TA):Prop :=
 ∀ (pos:Pos) (pins:List (Addr×Obj)) (s:Shared) (σ:St) (H:Hp) (Q:List V→Hp→Prop),Inv X pins σ H s→t σ H Q→wpAny (model X.prog X.w) X.A (spliced (backTo pos (starEach es X.env))) (AP X pins σ Q) X.xe s
def PS (X:Cx) (st:Stmt) (t:TS):Prop :=
 ∀ (pins:List (Addr×Obj)) (s:Shared) (σ:St) (H:Hp) (D:Ends),Inv X pins σ H s→t D σ H→wpAny (model X.prog X.w) X.A (exec st X.env) (SP X pins D) X.xe s
def PSs (X:Cx) (st:List Stmt) (t:TS):Prop :=
 ∀ (pins:List (Addr×Obj)) (s:Shared) (σ:St) (H:Hp) (D:Ends),Inv X pins σ H s→t D σ H→wpAny (model X.prog X.w) X.A (execs st X.env) (SP X pins D) X.xe s
theorem thn {α:Type} {t:Sem α} {Q Q':α→Shared→Prop} {M:Model} {A:Around} {E:Value→Shared→Prop} {s:Shared} (h:wpAny M A t Q E s) (hQ:∀ a s,Q a s→Q' a s):wpAny M A t Q' E s:=wpAny_mono h hQ fun _ _ x=>x
end L2
namespace L2
open PySem PySem.Spec PyProof.Rows
section
variable {X:Cx}
def tVar (i:Nat):TE:=fun σ H Q=>∃ v,σ[i]? = some (some v)∧Q v H
def tC (v:V):TE:=fun _ H Q=>Q v H
theorem qk4 {i:Nat} {x:Str} {pos:Pos} (hN:X.N[i]? = some x) (hv:Vis X.env.scope x) (hd:(x == ("__debug__" : Str))=false:=by decide) (hcd:(x == ("__classdict__" : Str))=false:=by decide):PE X (.Name x pos) (tVar i):=by
 intro pins s σ H Q I h
 obtain⟨v,e,h⟩:=h
 obtain⟨m,hn,hl⟩:=I.loc
 obtain⟨u,r,l⟩:=hl i x v hN e hv
 have fin:EP X pins σ Q u s:=⟨v,H,I,r,h⟩
 rcases l with ⟨hk,hm⟩ | ⟨hk,c,hc,hcell⟩
 ·exact wpAny_Name (wpAny_loadName_local I.ok.kind hk hn hm fin) hd
 ·rcases hk with hk | hk
  ·exact wpAny_Name (wpAny_loadName_cell I.ok.kind hk hc hcell fin) hd
  ·exact wpAny_Name (wpAny_loadName_free I.ok.kind hk hc hcell fin hcd) hd
theorem q02 {i j pos}:PE X (.Constant (.int i) j pos) (tC (.int i)):=fun _ _ _ H _ I h=>wpAny_Constant_int ⟨.int i,H,I.tok _,⟨_,rfl⟩,h⟩
theorem q1k {b j pos}:PE X (.Constant (.bool b) j pos) (tC (.bl b)):=fun _ _ _ H _ I h=>Constant_bool ⟨.bl b,H,I,rfl,h⟩
theorem q4k {j pos}:PE X (.Constant .none j pos) (tC .non):=fun _ _ _ H _ I h=>Constant_none ⟨.non,H,I,rfl,h⟩
theorem q09 {x j pos}:PE X (.Constant (.str x) j pos) (tC (.str x)):=fun _ _ _ H _ I h=>Calls.Constant_str ⟨.str x,H,I.tok _,⟨_,rfl⟩,h⟩
def Gl (X:Cx) (x:Str):Prop:=X.env.kindOf x=some .globalImplicit
theorem q5o {E:Value→Shared→Prop} {pins:List (Addr×Obj)} {s:Shared} {σ:St} {H:Hp} {x:Str} {u:Value} {pos:Pos} {Q:Value→Shared→Prop} (I:Inv X pins σ H s) (hg:Gl X x) (hm:X.mg x=some u) (h:Q u s)
  (hd:(x == ("__debug__" : Str))=false:=by decide):wpAny (model X.prog X.w) X.A (eval (.Name x pos) X.env) Q E s :=
 Calls.Name_function_global I.ok.kind hg (Calls.loadGlobal_global (by rw[I.ok.glob];exact I.mod.glob.keeps I.bk) hm h) hd
theorem qaf {E:Value→Shared→Prop} {pins:List (Addr×Obj)} {s:Shared} {σ:St} {H:Hp} {x:Str} {u:Value} {pos:Pos} {Q:Value→Shared→Prop} (I:Inv X pins σ H s) (hg:Gl X x) (hm:X.mg x=none) (hv:bootBuiltins x=some u) (h:Q u s)
  (hn:x ≠ "__name__" := by decide) (hd:(x == ("__debug__" : Str))=false:=by decide):wpAny (model X.prog X.w) X.A (eval (.Name x pos) X.env) Q E s:=by
 obtain⟨mb,h1,h2⟩:=I.mod.blt
 exact Calls.Name_function_global I.ok.kind hg (Calls.loadGlobal_builtin (by rw[I.ok.glob];exact I.mod.glob.keeps I.bk) hm (by rw[I.ok.blt];exact h1.keeps I.bk) ((h2 x hn).trans hv) h) hd
theorem q10 {x:Str} {v:V} {u:Value} {pos:Pos} (hg:Gl X x) (hm:X.mg x=none) (hv:bootBuiltins x=some u) (r:RelV v u) (hn:x ≠ "__name__" := by decide) (hd:(x == ("__debug__" : Str))=false:=by decide):PE X (.Name x pos) (tC v) :=
 fun _ _ _ H _ I h=>qaf I hg hm hv ⟨v,H,I,r,h⟩ hn hd
variable {a b:Expr} {ta tb:TE} {pos:Pos}
def PC (X:Cx) (op:CmpOp) (a b:Expr) (t:TE):Prop :=
 ∀ (pins:List (Addr×Obj)) (s:Shared) (σ:St) (H:Hp) (Q:VK),Inv X pins σ H s→t σ H Q →
  wpAny (model X.prog X.w) X.A (eval a X.env) (fun v s₁=>wpAny (model X.prog X.w) X.A (eval b X.env) (fun u s₂=>wpAny (model X.prog X.w) X.A (compareOp op v u) (EP X pins σ Q) X.xe s₂) X.xe s₁) X.xe s
theorem qab (b:Expr) {op:CmpOp} (h:op ≠ .In) (h2:op ≠ .NotIn):behindInMarks op b=false:=by
 have e1:(op == CmpOp.In)=false:=by cases op <;> first | rfl | exact absurd rfl h
 have e2:(op == CmpOp.NotIn)=false:=by cases op <;> first | rfl | exact absurd rfl h2
 cases b <;> simp[behindInMarks,e1,e2]
def tIsN (ta:TE):TE:=fun σ H Q=>ta σ H fun x H1=>Q (.bl (decide (x= .non))) H1
theorem RelV.none_iff {x:V} {v:Value} (r:RelV x v):(v == Value.none)=decide (x= .non):=by
 cases x with
 | non=>cases r;rfl
 | bl _=>cases r;rfl
 | int _=>obtain⟨t,rfl⟩:=r;rfl
 | str _=>obtain⟨t,rfl⟩:=r;rfl
 | byt _=>obtain⟨t,rfl⟩:=r;rfl
 | flt _=>obtain⟨t,rfl⟩:=r;rfl
 | ref _=>cases r;rfl
 | ty _=>cases r;rfl
theorem q5q {j pos'} (ha:PE X a ta):PC X .Is a (.Constant .none j pos') (tIsN ta):=by
 intro pins s σ H Q I h
 refine thn (ha pins s σ H _ I h) fun v s1 ⟨x,H1,I1,r1,q1⟩=> ?_
 exact Constant_none (is_none_gen ⟨.bl _,H1,I1,by rw[r1.none_iff];rfl,q1⟩)
def tB (t:TE):TT:=fun σ H Q=>t σ H fun x H1=>∃ c,x= .bl c∧Q c H1
theorem qgw {op:CmpOp} {t:TE} (h:PC X op a b t) (h1:behindInMarks op b=false:=by first | exact qab _ (by decide) (by decide) | rfl):PE X (.Compare a [op] [b] pos) t:=fun pins s σ H Q I hw=>wpAny_Compare1 (h pins s σ H Q I hw) h1
theorem q3w {op:CmpOp} {t:TE} (h:PC X op a b t) (h1:behindInMarks op b=false:=by first | exact qab _ (by decide) (by decide) | rfl):PT X (.Compare a [op] [b] pos) (tB t):=by
 intro pins s σ H Q I hw
 refine wpAny_isTrue_Compare1 (thn (h pins s σ H _ I hw) fun v s1 h1=>thn h1 fun u s2 h2=>thn h2 fun c s3 ⟨x,H1,I1,r1,q1⟩=> ?_) h1
 obtain⟨d,rfl,q⟩:=q1
 cases r1
 exact wpAny_truthy_bool ⟨H1,I1,q⟩
theorem q17 {e:Expr} {t:TE} (h:PE X e t) (he:∀ whole,isTrue e X.env whole=(do let v ← whole;standAt e.pos;holding [v] (truthy v)):=by intro _;rfl):PT X e (tB t):=by
 intro pins s σ H Q I hw
 refine isTrue_plain (thn (h pins s σ H _ I hw) fun v s1 ⟨x,H1,I1,r1,q1⟩=> ?_) (he _)
 obtain⟨d,rfl,q⟩:=q1
 cases r1
 exact wpAny_truthy_bool ⟨H1,I1,q⟩
variable {tA tB':TT} {rest:List Expr}
def tOr (t u:TT):TT:=fun σ H Q=>t σ H fun c H1=>if c=true then Q true H1 else u σ H1 Q
def tNot (t:TT):TT:=fun σ H Q=>t σ H fun c H1=>Q (!c) H1
theorem q23 (ha:PT X a tA):PW X (.BoolOp .Or [a] pos) tA:=by
 intro wh pins s σ H Q I h
 refine isTrue_or (thn (ha pins s σ H Q I h) fun c s1 e=> ?_)
 cases c with
 | false=>exact isTrue_or_nil e
 | true=>exact e
theorem q2u (ha:PT X a tA) (hb:PW X (.BoolOp .Or (b :: rest) pos) tB'):PW X (.BoolOp .Or (a :: b :: rest) pos) (tOr tA tB'):=by
 intro wh pins s σ H Q I h
 refine isTrue_or (thn (ha pins s σ H _ I h) fun c s1 ⟨H1,I1,q1⟩=> ?_)
 cases c with
 | true=>exact⟨H1,I1,q1⟩
 | false=>exact hb wh pins s1 σ H1 Q I1 q1
theorem q1g (ha:PT X a tA):PT X (.UnaryOp .Not a pos) (tNot tA):=by
 intro pins s σ H Q I h
 exact isTrue_not (ha pins s σ H (fun c H1=>Q (!c) H1) I h)
def qm2 (ta tb:TE):TE:=fun σ H Q=>ta σ H fun x H1=>∃ c,x= .bl c∧if c=true then tb σ H1 Q else Q (.bl false) H1
def qlf (ta:TE):TE:=fun σ H Q=>ta σ H fun x H1=>∃ c,x= .bl c∧Q (.bl (!c)) H1
theorem q4z {op} {t:TE} (h:PE X a t):PE X (.BoolOp op [a] pos) t:=fun pins s σ H Q I hw=>BoolOp_one (h pins s σ H Q I hw)
theorem q4a (ha:PE X a ta) (hb:PE X (.BoolOp .And (b :: rest) pos) tb):PE X (.BoolOp .And (a :: b :: rest) pos) (qm2 ta tb):=by
 intro pins s σ H Q I h
 refine BoolOp_and (thn (ha pins s σ H _ I h) fun v s1 ⟨x,H1,I1,r1,q1⟩=> ?_)
 obtain⟨c,rfl,q1⟩:=q1
 cases r1
 refine wpAny_truthy_bool ?_
 cases c with
 | true=>exact hb pins s1 σ H1 Q I1 q1
 | false=>exact⟨.bl false,H1,I1,rfl,q1⟩
theorem qgx (ha:PE X a ta):PE X (.UnaryOp .Not a pos) (qlf ta):=by
 intro pins s σ H Q I h
 refine UnaryOp_ (thn (ha pins s σ H _ I h) fun v s1 ⟨x,H1,I1,r1,q1⟩=> ?_)
 obtain⟨c,rfl,q1⟩:=q1
 cases r1
 exact not_of (wpAny_truthy_bool ⟨.bl (!c),H1,I1,rfl,q1⟩)
def tIf (t:TT) (ta tb:TE):TE:=fun σ H Q=>t σ H fun c H1=>if c=true then ta σ H1 Q else tb σ H1 Q
theorem q6y {c:Expr} (hc:PT X c tA) (ha:PE X a ta) (hb:PE X b tb):PE X (.IfExp c a b pos) (tIf tA ta tb):=by
 intro pins s σ H Q I h
 refine wpAny_IfExp (thn (hc pins s σ H _ I h) fun d s1 ⟨H1,I1,q1⟩=> ?_)
 cases d with
 | true=>exact ha pins s1 σ H1 Q I1 q1
 | false=>exact hb pins s1 σ H1 Q I1 q1
end
end L2
namespace L2
open PySem PySem.Spec PyProof.Rows
def SqL (K:PySem.W.Frag) (H:Hp) (a:Addr) (xs:List V):Prop :=
 Rd H a (.lst xs) ∨
  ∃ (o:Obj) (its:Array Value) (n:Nat),K.lookup a=some o∧o.cls= .type "list" ∧ o.dict=none∧o.data= .seq its n∧its.size≤sizeLine∧Vals xs its.toList
def SqT (K:PySem.W.Frag) (H:Hp) (a:Addr) (xs:List V):Prop :=
 Rd H a (.tup xs) ∨
  ∃ (o:Obj) (its:Array Value) (n:Nat),K.lookup a=some o∧o.cls= .type "tuple" ∧ o.data= .seq its n∧its.size≤sizeLine∧Vals xs its.toList
def absV:Value→Option V
 | .none=>some .non
 | .bool b=>some (.bl b)
 | .int i _=>some (.int i)
 | .str x _=>some (.str x)
 | .bytes b _=>some (.byt b)
 | .float b _=>some (.flt b)
 | .ref a=>some (.ref a)
 | .type n=>some (.ty n)
 | _=>none
theorem RelV.abs {x:V} {u:Value} (r:RelV x u):absV u=some x:=by
 cases x with
 | non=>cases r;rfl
 | bl _=>cases r;rfl
 | int _=>obtain⟨t,rfl⟩:=r;rfl
 | str _=>obtain⟨t,rfl⟩:=r;rfl
 | byt _=>obtain⟨t,rfl⟩:=r;rfl
 | flt _=>obtain⟨t,rfl⟩:=r;rfl
 | ref _=>cases r;rfl
 | ty _=>cases r;rfl
theorem RelV.inj {x y:V} {u:Value} (r:RelV x u) (q:RelV y u):x=y:=Option.some.inj (r.abs.symm.trans q.abs)
theorem Vals.inj:∀ {xs ys:List V} {us:List Value},Vals xs us→Vals ys us→xs=ys
 | _,_,_,.nil,.nil=>rfl
 | _,_,_,.cons r t,.cons r' t'=>by rw[r.inj r',Vals.inj t t']
section
variable {X:Cx} {pins:List (Addr×Obj)} {σ:St} {H:Hp} {s:Shared} {a:Addr} {xs ys:List V}
theorem SqL.of {K:PySem.W.Frag} (h:H a=some (.lst xs)):SqL K H a xs:= .inl (.inl h)
theorem SqT.of {K:PySem.W.Frag} (h:H a=some (.tup xs)):SqT K H a xs:= .inl (.inl h)
theorem Inv.list (I:Inv X pins σ H s) (h:SqL X.K H a xs):∃ its:List Value,Vals xs its∧PlainL s.heap a its.toArray∧xs.length≤sizeLine:=by
 rcases h with h | ⟨o,its,n,hk,hc,hd,hs,hz,r⟩
 ·obtain⟨z,its,n,r,e⟩:=h.ok I.hok
  exact⟨its,r,⟨_,n,e,rfl,rfl,rfl⟩,z⟩
 ·refine⟨its.toList,r,⟨o,n,I.kIn a o hk,hc,hd,by simpa using hs⟩,?_⟩
  have e:=r.length
  simp only[Array.length_toList]at e
  omega
theorem Inv.tuple (I:Inv X pins σ H s) (h:SqT X.K H a xs):∃ its:List Value,Vals xs its∧IsTup s.heap a its.toArray∧xs.length≤sizeLine:=by
 rcases h with h | ⟨o,its,n,hk,hc,hs,hz,r⟩
 ·obtain⟨z,its,r,p⟩:=h.ok I.hok
  exact⟨its,r,p,z⟩
 ·refine⟨its.toList,r,⟨o,I.kIn a o hk,hc,n,by simpa using hs⟩,?_⟩
  have e:=r.length
  simp only[Array.length_toList]at e
  omega
theorem Inv.list_inj (I:Inv X pins σ H s) (h:SqL X.K H a xs) (h':SqL X.K H a ys):xs=ys:=by
 obtain⟨its,r,⟨o,n,e,_,_,d⟩,_⟩:=I.list h
 obtain⟨its',r',⟨o',n',e',_,_,d'⟩,_⟩:=I.list h'
 rw[e]at e';cases e'
 rw[d]at d'
 injection d' with d1 _
 have:its=its':=by simpa using congrArg Array.toList d1
 subst this
 exact r.inj r'
end
abbrev Cx.wish (X:Cx) (E:Value→Shared→Prop):Cx:={ X with xe:=E }
abbrev Cx.nox (X:Cx):Cx:=X.wish fun _ _=>False
theorem Cx.Ok.wish {X:Cx} (ok:X.Ok) (E:Value→Shared→Prop):(X.wish E).Ok :=
 ⟨ok.mod,ok.kind,ok.glob,ok.blt,ok.above,ok.inj,ok.has,ok.cab,ok.hd,ok.frames,ok.stk,ok.exf,ok.bs,ok.bsz,ok.noex,ok.exfs,ok.funs,ok.frf⟩
theorem Cx.Ok.unwish {X:Cx} {E:Value→Shared→Prop} (ok:(X.wish E).Ok):X.Ok :=
 ⟨ok.mod,ok.kind,ok.glob,ok.blt,ok.above,ok.inj,ok.has,ok.cab,ok.hd,ok.frames,ok.stk,ok.exf,ok.bs,ok.bsz,ok.noex,ok.exfs,ok.funs,ok.frf⟩
section
variable {X:Cx} {pins:List (Addr×Obj)} {σ:St} {H:Hp} {s:Shared} {E:Value→Shared→Prop}
theorem Inv.wish (I:Inv X pins σ H s) (E:Value→Shared→Prop):Inv (X.wish E) pins σ H s:=⟨I.ok.wish E,I.os,I.bare,I.base,I.loc,I.cell,I.free,I.freeC,I.pin,I.hok,I.len⟩
theorem Inv.unwish (I:Inv (X.wish E) pins σ H s):Inv X pins σ H s:=⟨I.ok.unwish,I.os,I.bare,I.base,I.loc,I.cell,I.free,I.freeC,I.pin,I.hok,I.len⟩
theorem SP.unwish {D:Ends} {f:Flow} {s':Shared} (h:SP (X.wish E) pins D f s'):SP X pins D f s':=by
 cases f with
 | next=>obtain⟨σ',H',I,q⟩:=h;exact⟨σ',H',I.unwish,q⟩
 | brk=>obtain⟨σ',H',I,q⟩:=h;exact⟨σ',H',I.unwish,q⟩
 | cont=>obtain⟨σ',H',I,q⟩:=h;exact⟨σ',H',I.unwish,q⟩
 | ret u=>obtain⟨v,σ',H',I,r,q⟩:=h;exact⟨v,σ',H',I.unwish,r,q⟩
theorem PSs.nox {st:List Stmt} {t:TS} (h:PSs X.nox st t):PSs X st t:=fun pins s σ H D I hw =>
 wpAny_mono (h pins s σ H D (I.wish _) hw) (fun _ _ q=>q.unwish) fun _ _ z=>False.elim z
end
section
variable {X:Cx} {st:Stmt} {rest:List Stmt} {t u:TS} {e:Expr} {te:TE} {pos:Pos}
def qlv:TS:=fun D σ H=>D.nx σ H
def tSeq (t u:TS):TS:=fun D σ H=>t { D with nx:=u D } σ H
theorem q0c:PSs X [] qlv:=fun _ _ σ H _ I h=>wpAny_execs_nil ⟨σ,H,I,h⟩
theorem q01 (h1:PS X st t) (h2:PSs X rest u):PSs X (st :: rest) (tSeq t u):=by
 intro pins s σ H D I h
 refine wpAny_execs_cons (thn (h1 pins s σ H { D with nx:=u D } I h) fun f s1 q=> ?_)
 cases f with
 | next =>
  obtain⟨σ',H',I',q⟩:=q
  exact h2 pins s1 σ' H' D I' q
 | ret v=>exact q
 | brk=>exact q
 | cont=>exact q
theorem q07 (h1:PS X st t):PSs X [st] t:=by
 intro pins s σ H D I h
 refine wpAny_execs_cons (thn (h1 pins s σ H D I h) fun f s1 q=> ?_)
 cases f with
 | next=>exact wpAny_execs_nil q
 | ret v=>exact q
 | brk=>exact q
 | cont=>exact q
theorem Inv.quiet {pins:List (Addr×Obj)} {σ:St} {H:Hp} {s:Shared} (I:Inv X pins σ H s):interactive X.env=false:=by simp[interactive,I.ok.kind]
def qls (te:TE):TS:=fun D σ H=>te σ H fun _ H1=>D.nx σ H1
theorem q2a (he:PE X e te) (hs:swapsWith e none pos.line X.env=pure false:=by rfl):PS X (.Expr e pos) (qls te):=by
 intro pins s σ H D I h
 exact wpAny_Expr_any (thn (he pins s σ H _ I h) fun v s1 ⟨x,H1,I1,r1,q1⟩=>⟨σ,H1,I1,q1⟩) I.quiet hs
def tRet (te:TE):TS:=fun D σ H=>te σ H D.rt
theorem q0a (he:PE X e te):PS X (.Return (some e) pos) (tRet te):=by
 intro pins s σ H D I h
 exact wpAny_Return_some (thn (he pins s σ H _ I h) fun v s1 ⟨x,H1,I1,r1,q1⟩=>⟨x,σ,H1,I1,r1,q1⟩)
def tIfS (c:TT) (t u:TS):TS:=fun D σ H=>c σ H fun b H1=>if b=true then t D σ H1 else u D σ H1
theorem q0q {c:Expr} {a b:List Stmt} {tc:TT} (hc:PT X c tc) (ha:PSs X a t) (hb:PSs X b u):PS X (.If c a b pos) (tIfS tc t u):=by
 intro pins s σ H D I h
 refine wpAny_If (thn (hc pins s σ H _ I h) fun d s1 ⟨H1,I1,q1⟩=> ?_)
 cases d with
 | true=>exact ha pins s1 σ H1 D I1 q1
 | false=>exact hb pins s1 σ H1 D I1 q1
def qkt:TS:=fun _ _ _=>False
theorem qg7:PS X st qkt:=fun _ _ _ _ _ _ h=>h.elim
end
abbrev TG:=V→St→Hp→(St→Hp→Prop)→Prop
abbrev TGs:=List V→St→Hp→(St→Hp→Prop)→Prop
def PG (X:Cx) (target:Expr) (t:TG):Prop :=
 ∀ (pins:List (Addr×Obj)) (s:Shared) (σ:St) (H:Hp) (v:V) (u:Value) (Q:St→Hp→Prop),Inv X pins σ H s→RelV v u→t v σ H Q →
  wpAny (model X.prog X.w) X.A (assign target X.env u) (fun _ s'=>∃ σ' H',Inv X pins σ' H' s'∧Q σ' H') X.xe s
def PGs (X:Cx) (ts:List Expr) (t:TGs):Prop :=
 ∀ (pins:List (Addr×Obj)) (s:Shared) (σ:St) (H:Hp) (vs:List V) (us:List Value) (Q:St→Hp→Prop),Inv X pins σ H s→Vals vs us→t vs σ H Q →
  wpAny (model X.prog X.w) X.A (assignInOrder ((assignEach ts X.env).map (·.2)) us) (fun _ s'=>∃ σ' H',Inv X pins σ' H' s'∧Q σ' H') X.xe s
abbrev TSet:=V→V→V→Hp→(Hp→Prop)→Prop
def PSet (X:Cx) (t:TSet):Prop :=
 ∀ (pins:List (Addr×Obj)) (s:Shared) (σ:St) (H:Hp) (o i v:V) (ov iv u:Value) (Q:Hp→Prop),Inv X pins σ H s→RelV o ov→RelV i iv→RelV v u→t o i v H Q →
  wpAny (model X.prog X.w) X.A (setItem ov iv u) (fun _ s'=>∃ H',Inv X pins σ H' s'∧Q H') X.xe s
section
variable {X:Cx} {pos:Pos}
def qct (i:Nat):TG:=fun v σ H Q=>Q (σ.set i (some v)) H
theorem q0x {i:Nat} {x:Str} (hN:X.N.Nodup) (hi:X.N[i]? = some x) (hx:Loc X.env.scope x) (hf:X.fn x=true∨X.env.scope.names.lookup x=some .local:=by first | exact .inl rfl | exact .inr rfl | assumption):PG X (.Name x pos) (qct i):=by
 intro pins s σ H v u Q I r h
 exact wpAny_assign_Name (q9l I hN hi hx r (fun s' I'=>⟨_,H,I',h⟩) hf)
def gNil:TGs:=fun vs σ H Q=>vs=[]∧Q σ H
def qlg (t:TG) (u:TGs):TGs:=fun vs σ H Q=>∃ v r,vs=v :: r∧t v σ H fun σ' H'=>u r σ' H' Q
theorem q7h:PGs X [] gNil:=by
 intro pins s σ H vs us Q I r h
 obtain⟨e,h⟩:=h
 subst e
 cases r
 exact assignInOrder_nil ⟨σ,H,I,h⟩
theorem q1z {e:Expr} {es:List Expr} {t:TG} {u:TGs} (h1:PG X e t) (h2:PGs X es u)
  (hs:(assignEach (e :: es) X.env).map (·.2)=assign e X.env :: (assignEach es X.env).map (·.2):=by rfl):PGs X (e :: es) (qlg t u):=by
 intro pins s σ H vs us Q I r h
 obtain⟨v,vr,e1,h⟩:=h
 subst e1
 cases r with
 | cons r rr =>
  rw[hs]
  refine assignInOrder_cons (thn (h1 pins s σ H _ _ _ I r h) fun _ s1 ⟨σ1,H1,I1,q1⟩=> ?_)
  exact h2 pins s1 σ1 H1 _ _ Q I1 rr q1
def gTup (K:PySem.W.Frag) (n:Nat) (t:TGs):TG:=fun v σ H Q=>∃ a xs,v= .ref a∧SqT K H a xs∧xs.length=n∧t xs σ H Q
theorem qal {es:List Expr} {k:Nat} {t:TGs} {n:Nat} (hc:X.calm=true) (h:PGs X es t)
  (hn:(assignEach es X.env).length=n:=by rfl) (hst:(assignEach es X.env).findIdx? (·.1)=none:=by rfl):PG X (.Tuple es k pos) (gTup X.K n t):=by
 intro pins s σ H v u Q I r hw
 obtain⟨a,xs,e1,hq,hl,hw⟩:=hw
 subst e1
 cases r
 obtain⟨its,rv,ht,hz⟩:=I.tuple hq
 refine assign_Tuple_tuple (I.ok.hd hc) ht (by simp[hn,← hl,rv.length]) hst fun h' hx=> ?_
 have I1:Inv X pins σ H { s with heap:=h' }:=I.kept (t':=s.toks) fun b o e=>hx b o (Nat.ne_of_lt (Heap.lt_size e)) e
 exact h pins _ σ H xs _ Q I1 (by simpa using rv) hw
def gSub (to ti:TE) (t:TSet):TG:=fun v σ H Q=>to σ H fun o H1=>ti σ H1 fun i H2=>t o i v H2 fun H3=>Q σ H3
theorem qjo {o i:Expr} {to ti:TE} {t:TSet} (ho:PE X o to) (hi:PE X i ti) (hs:PSet X t)
  (ha:∀ v,assign (.Subscript o i pos) X.env v=(do
   let ov ← holding [v] (eval o X.env)
   let iv ← holding [v,ov] (eval i X.env)
   standAt pos
   holding [v,ov,iv] (setItem ov iv v)
   release [v,ov,iv] []):=by intro _;rfl):PG X (.Subscript o i pos) (gSub to ti t):=by
 intro pins s σ H v u Q I r h
 rw[ha]
 refine wpAny_bind (wpAny_holding (thn (ho pins s σ H _ I h) fun ov s1 ⟨x,H1,I1,r1,q1⟩=> ?_))
 refine wpAny_bind (wpAny_holding (thn (hi pins s1 σ H1 _ I1 q1) fun iv s2 ⟨y,H2,I2,r2,q2⟩=> ?_))
 refine wpAny_bind (wpAny_standAt (wpAny_bind (wpAny_holding (thn (hs pins s2 σ H2 x y v ov iv u _ I2 r1 r2 r q2) fun _ s3 ⟨H3,I3,q3⟩=> ?_))))
 exact wpAny_release ⟨σ,H3,I3,q3⟩
def tAsg (te:TE) (g:TG):TS:=fun D σ H=>te σ H fun x H1=>g x σ H1 D.nx
theorem q9k {tg e:Expr} {te:TE} {g:TG} (he:PE X e te) (hg:PG X tg g) (hs:swapsWithSole [tg] e pos.line X.env=pure false:=by rfl) (hw:swappedStores [tg] e X.env=pure none:=by rfl)
  (h1:(assignEach [tg] X.env).map (·.2)=[assign tg X.env]:=by rfl):PS X (.Assign [tg] e pos) (tAsg te g):=by
 intro pins s σ H D I h
 refine wpAny_Assign_stores (thn (he pins s σ H _ I h) fun v s1 ⟨x,H1,I1,r1,q1⟩=> ?_) hs hw
 rw[h1]
 exact thn (hg pins s1 σ H1 x v _ I1 r1 q1) fun _ s2 q=>q
theorem q0s {i:Nat} {x:Str} {e:Expr} {te:TE} {pos':Pos} (hN:X.N.Nodup) (hi:X.N[i]? = some x) (hx:Loc X.env.scope x) (he:PE X e te) (hs:swapsWith e (some (.Name x pos')) pos.line X.env=pure false:=by rfl) (hf:X.fn x=true∨X.env.scope.names.lookup x=some .local:=by first | exact .inl rfl | exact .inr rfl | assumption) :
  PS X (.Assign [.Name x pos'] e pos) (tAsg te (qct i)):=by
 intro pins s σ H D I h
 refine wpAny_Assign_Name (thn (he pins s σ H _ I h) fun v s1 ⟨y,H1,I1,r1,q1⟩=> ?_) hs
 exact q9l I1 hN hi hx r1 (fun s2 I2=>⟨_,H1,I2,q1⟩) hf
end
section
variable {X:Cx} {pos:Pos}
end
structure It where
 go:Nat→Hp→Prop
 yld:Nat→Hp→V→Hp→Prop
 stop:Nat→Hp→Prop
def FpOk (X:Cx) (pins:List (Addr×Obj)) (H:Hp) (b:Addr):Prop :=
 H b=none∧b ≠ X.env.locals∧b ∉ X.fs∧(b ∈ X.ex∨X.s₀.heap.objs.size≤b)∧(∀ x c,X.env.cells.lookup x=some c→c ≠ b)∧∀ p ∈ X.pn ++ pins,p.1 ≠ b
theorem Inv.fpOk {X:Cx} {pins:List (Addr×Obj)} {σ:St} {H H':Hp} {s:Shared} {b:Addr} (I:Inv X pins σ H s) (hb:s.heap.objs.size≤b) (hn:H' b=none):FpOk X pins H' b:=by
 refine⟨hn,Nat.ne_of_gt (Nat.lt_of_lt_of_le I.lt hb),I.nofs hb,.inr (Nat.le_trans I.sz hb),fun x c e z=> ?_,fun p hp z=> ?_⟩
 ·obtain⟨v,q⟩:=I.cell x c e
  exact absurd (Nat.lt_of_lt_of_le q.lt (by rw[z];exact hb)) (Nat.lt_irrefl _)
 ·exact absurd (Nat.lt_of_lt_of_le (Heap.lt_size (I.pin p hp).1) (by rw[z];exact hb)) (Nat.lt_irrefl _)
structure Turn (P:Program) (w:World) (K:PySem.W.Frag) (tg:Expr) (J:It) (fp:List Addr) (it:Addr) (tn:Nat→Heap→Prop):Prop where
 mem:it ∈ fp
 obj:∀ i h,tn i h→∀ b ∈ fp,∃ o,h.get? b=some o∧∀ v,o.data ≠ .cell v
 keep:∀ i h h',tn i h→(∀ b ∈ fp,∀ o,h.get? b=some o→h'.get? b=some o)→tn i h'
 item:∀ (X:Cx),X.prog=P→X.w=w→X.K=K→X.calm=true→∀ (i:Nat) (pins:List (Addr×Obj)) (s:Shared) (σ:St) (H:Hp) (E:Value→Shared→Prop),Inv X pins σ H s→(∀ b ∈ fp,FpOk X pins H b)→tn i s.heap→J.go i H →
  wpAny (model P w) X.A (pyNext (.ref it)) (fun r s1=>∃ u,r=some u ∧
   wpAny (model P w) X.A (letOwnedTupleGo tg (.ref it) u) (fun _ s2=>∃ x H',Inv X pins σ H' s2∧RelV x u∧J.yld i H x H'∧tn (i + 1) s2.heap∧∀ b ∈ fp,H' b=none) E s1) E s
 done:∀ (X:Cx),X.prog=P→X.w=w→X.K=K→X.calm=true→∀ (i:Nat) (pins:List (Addr×Obj)) (s:Shared) (σ:St) (H:Hp) (E:Value→Shared→Prop),Inv X pins σ H s→(∀ b ∈ fp,FpOk X pins H b)→tn i s.heap→J.stop i H →
  wpAny (model P w) X.A (pyNext (.ref it)) (fun r s1=>r=none∧Inv X pins σ H s1) E s
 self:∀ (A:Around) (i:Nat) (s:Shared) (Q:Value→Shared→Prop) (E:Value→Shared→Prop),tn i s.heap→Q (.ref it) s→wpAny (model P w) A (pyIter (.ref it)) Q E s
abbrev TI:=St→Hp→(It→Hp→Prop)→Prop
def PIE (X:Cx) (pins:List (Addr×Obj)) (σ:St) (tg:Expr) (R:It→Hp→Prop) (itv:Value) (s2:Shared):Prop :=
 ∃ (it:Addr) (fp:List Addr) (tn:Nat→Heap→Prop) (J:It) (H':Hp),itv= .ref it∧Inv X pins σ H' s2∧Turn X.prog X.w X.K tg J fp it tn∧tn 0 s2.heap∧(∀ b ∈ fp,FpOk X pins H' b)∧R J H'
def PI (X:Cx) (tg iter:Expr) (wi:TI):Prop :=
 ∀ (pins:List (Addr×Obj)) (s:Shared) (σ:St) (H:Hp) (R:It→Hp→Prop),Inv X pins σ H s→wi σ H R →
  wpAny (model X.prog X.w) X.A (eval iter X.env) (fun v s1=>wpAny (model X.prog X.w) X.A (pyIter v) (PIE X pins σ tg R) X.xe s1) X.xe s
theorem ql0 {M:Model} {A:Around} {E:Value→Shared→Prop} {s:Shared} {tg:Expr} {it:Addr} {u:Value} {o:Obj} {n:String} {vs:Array Value} {Q:Unit→Shared→Prop} (ho:s.heap.get? it=some o) (hc:o.cls= .type n) (hd:o.data= .fields vs)
    (hn:["enumerate","zip","dict_itemiterator","dict_reverseitemiterator","odict_iterator","itertools.zip_longest","itertools.pairwise"].contains n=false) (hQ:Q () s):wpAny M A (letOwnedTupleGo tg (.ref it) u) Q E s:=by
  unfold letOwnedTupleGo
  cases tg <;> first
    | exact wpAny_pure hQ
    | (cases u <;> first
        | exact wpAny_pure hQ
        | (refine wpAny_bind (wpAny_load ho ?_)
           rw[hc,hd]
           show wpAny M A (if (["enumerate","zip","dict_itemiterator","dict_reverseitemiterator","odict_iterator","itertools.zip_longest","itertools.pairwise"].contains n && vs[0]? == some (rawInt _))=true then _ else _) Q E s
           rw[if_neg (by intro h;rw[hn,Bool.false_and]at h;cases h)]
           exact wpAny_pure hQ))
def Itl (K:PySem.W.Frag) (a:Addr):It :=
 ⟨fun i H=>∃ xs x,SqL K H a xs∧xs[i]? = some x,fun i H x H'=>H'=H∧∀ xs,SqL K H a xs→xs[i]? = some x,fun i H=>∃ xs,SqL K H a xs∧xs.length≤i⟩
def Itr (lo:Int) (n:Nat):It:=⟨fun i _=>i < n,fun i H x H'=>H'=H∧x= .int (lo + i),fun i _=>n≤i⟩
theorem qc7 {P:Program} {w:World} {K:PySem.W.Frag} {tg:Expr} (a it:Addr):Turn P w K tg (Itl K a) [it] it (fun i h=>h.IsListIter it a i) where
 mem:=by simp
 obj:=fun i h st b hb=>by
  have e:b=it:=by simpa using hb
  subst e
  obtain⟨o,e,c,d⟩:=st
  exact⟨o,e,fun v z=>by rw[d]at z;cases z⟩
 keep:=fun i h h' st k=>st.at fun o e=>k it (by simp) o e
 item:=by
  intro X hP hw hK hc i pins s σ H E I hf st hg
  subst hP hw hK
  obtain⟨xs,x,hq,hx⟩:=hg
  obtain⟨its,rv,p,hz⟩:=I.list hq
  obtain⟨u,hu,ru⟩:=rv.get hx
  obtain⟨f0,f1,f2,f3,f4,f5⟩:=hf it (by simp)
  refine wpAny_pyNext_list_item st p.isList (x:=u) (by simpa using hu) fun h' st' sb=> ?_
  have I1:Inv X pins σ H { s with heap:=h' }:=I.turned (t':=s.toks) (fun b o hb e=>(sb.2 b hb).trans e) f0 f1 f3 f4 f5
  obtain⟨o,e,c,d⟩:=id st'
  exact⟨u,rfl,ql0 (s:={ s with heap:=h' }) e c d (by decide) ⟨x,H,I1,ru,⟨rfl,fun ys hy=>by rw[I.list_inj hy hq];exact hx⟩,st',fun b hb=>(hf b hb).1⟩⟩
 done:=by
  intro X hP hw hK hc i pins s σ H E I hf st hg
  subst hP hw hK
  obtain⟨xs,hq,hx⟩:=hg
  obtain⟨its,rv,p,hz⟩:=I.list hq
  obtain⟨f0,f1,f2,f3,f4,f5⟩:=hf it (by simp)
  have hl:=rv.length
  exact wpAny_pyNext_list_end (I.ok.hd hc) st p.isList (by simp;omega) fun h' eb=>⟨rfl,I.turned (t':=s.toks) (fun b o hb e=>eb b o hb e) f0 f1 f3 f4 f5⟩
 self:=fun _ _ _ _ _ st h=>wpAny_pyIter_listiter st h
theorem qav {P:Program} {w:World} {K:PySem.W.Frag} {tg:Expr} (it:Addr) (lo:Int) (n:Nat):Turn P w K tg (Itr lo n) [it] it (fun i h=>IsRangeIter h it (lo + (i:Nat) * 1) ((n:Int) - (i:Nat)) 1) where
 mem:=by simp
 obj:=fun i h st b hb=>by
  have e:b=it:=by simpa using hb
  subst e
  exact⟨_,st,fun v z=>by
   have z':Data.fields _=Data.cell v:=z
   cases z'⟩
 keep:=fun i h h' st k=>k it (by simp) _ st
 item:=by
  intro X hP hw hK hc i pins s σ H E I hf st hg
  subst hP hw hK
  obtain⟨f0,f1,f2,f3,f4,f5⟩:=hf it (by simp)
  have W:=Walks.range (prog:=X.prog) (w:=X.w) (I.ok.hd hc) it lo 1 n
  refine W.item i s _ _ hg st fun v h' tk hv st' kk=> ?_
  obtain⟨t,rfl⟩:=hv
  have I1:Inv X pins σ H { s with heap:=h',toks:=tk }:=I.turned (fun b o hb e=>kk b o (by simpa using hb) e) f0 f1 f3 f4 f5
  refine⟨_,rfl,ql0 (s:={ s with heap:=h',toks:=tk }) (n:= "range_iterator") st' rfl rfl (by decide) ⟨.int (lo + i),H,I1,⟨t,?_⟩,⟨rfl,rfl⟩,st',fun b hb=>(hf b hb).1⟩⟩
  rw[Int.mul_one]
 done:=by
  intro X hP hw hK hc i pins s σ H E I hf st hg
  subst hP hw hK
  obtain⟨f0,f1,f2,f3,f4,f5⟩:=hf it (by simp)
  exact wpAny_pyNext_range_end (I.ok.hd hc) st (by have:n≤i:=hg;omega) fun h' eb=>⟨rfl,I.turned (t':=s.toks) (fun b o hb e=>eb b o hb e) f0 f1 f3 f4 f5⟩
 self:=fun _ _ _ _ _ st h=>wpAny_pyIter_rangeiter st h
end L2
namespace L2
open PySem PySem.Spec PyProof.Rows
section
variable {X:Cx} {tg:Expr}
def qee (K:PySem.W.Frag) (tl:TE):TI:=fun σ H R=>tl σ H fun x H1=>∃ a,x= .ref a∧(∃ xs,SqL K H1 a xs)∧R (Itl K a) H1
theorem q1l {l:Expr} {tl:TE} (hl:PE X l tl):PI X tg l (qee X.K tl):=by
 intro pins s σ H R I h
 refine thn (hl pins s σ H _ I h) fun v s1 ⟨x,H1,I1,r1,q1⟩=> ?_
 obtain⟨a,e,⟨xs,hq⟩,q⟩:=q1
 subst e
 cases r1
 obtain⟨its,rv,p,hz⟩:=I1.list hq
 refine wpAny_pyIter_list p.isList ?_
 refine⟨s1.heap.objs.size,[s1.heap.objs.size],_,_,H1,rfl,I1.kept (t':=s1.toks) fun b o e=>Heap.get?_push_of_some _ e,qc7 a _,⟨_,Heap.get?_push_size _ rfl,rfl,rfl⟩,fun b hb=> ?_,q⟩
 have e:b=s1.heap.objs.size:=by simpa using hb
 subst e
 exact I1.fpOk (Nat.le_refl _) (I1.hok.fresh (Nat.le_refl _))
theorem qg3 {pins:List (Addr×Obj)} {σ:St} {H:Hp} {s:Shared} {R:It→Hp→Prop} {E:Value→Shared→Prop} {lo hi:Int} {t u v:Tok} {tk:Nat} (I:Inv X pins σ H s) (h1: -(2 ^ 62)≤lo) (h2:lo < 2 ^ 62) (h3: -(2 ^ 62)≤hi) (h4:hi < 2 ^ 62)
  (q:R (Itr lo (hi - lo).toNat) H):wpAny (model X.prog X.w) X.A (pyIter (.ref s.heap.objs.size)) (PIE X pins σ tg R) E { s with heap:=s.heap.push { cls:= .type "range",data:= .fields #[.int lo t,.int hi u,.int 1 v] },toks:=tk }:=by
 refine wpAny_pyIter_range (IsRange.new ..) (small_one h1 h2 h3 h4) ?_
 have I1:Inv X pins σ H { s with heap:=s.heap.push { cls:= .type "range",data:= .fields #[.int lo t,.int hi u,.int 1 v] },toks:=tk }:=I.kept fun b o e=>Heap.get?_push_of_some _ e
 refine⟨(s.heap.push { cls:= .type "range",data:= .fields #[.int lo t,.int hi u,.int 1 v] }).objs.size,[(s.heap.push { cls:= .type "range",data:= .fields #[.int lo t,.int hi u,.int 1 v] }).objs.size],_,_,H,rfl,
  I1.kept (t':=tk) fun b o e=>Heap.get?_push_of_some _ e,qav _ lo (hi - lo).toNat,?_,fun b hb=> ?_,q⟩
 ·have e1:lo + ((0:Nat):Int) * 1=lo:=by simp
  have e2:(((hi - lo).toNat:Nat):Int) - ((0:Nat):Int)=Builtin.Range.rangeSize lo hi 1:=by rw[rangeSize_one];split <;> omega
  show IsRangeIter _ _ (lo + ((0:Nat):Int) * 1) ((((hi - lo).toNat:Nat):Int) - ((0:Nat):Int)) 1
  rw[e1,e2]
  exact Heap.get?_push_size _ rfl
 ·have e:b=(s.heap.push { cls:= .type "range",data:= .fields #[.int lo t,.int hi u,.int 1 v] }).objs.size:=by simpa using hb
  subst e
  exact I1.fpOk (Nat.le_refl _) (I1.hok.fresh (Nat.le_refl _))
def qlh (ta:TA):TI:=fun σ H R=>ta σ H fun vs H1=>∃ j:Int,vs=[.int j]∧ -(2 ^ 62)≤j∧j < 2 ^ 62∧R (Itr 0 j.toNat) H1
theorem q2h {a:Expr} {ta:TA} {p pos:Pos} (hg:Gl X "range") (hm:X.mg "range" = none) (ha:PA X [a] ta) (hs:starEach [a] X.env=[(false,eval a X.env)]:=by rfl):PI X tg (.Call (.Name "range" p) [a] [] pos) (qlh ta):=by
 intro pins s σ H R I h
 refine Call_ (qaf I hg hm boot_range (PyProof.Rows.callWith_type1 (thn (ha pos pins s σ H _ I h) fun us s1 ⟨vs,H1,I1,r1,q1⟩=> ?_) hs rfl))
 obtain⟨j,e,q1,q2,q⟩:=q1
 subst e
 cases r1 with
 | cons r rr =>
  cases rr
  obtain⟨t,rfl⟩:=r
  exact call_range_1 (qg3 I1 (by omega) (by omega) q1 q2 (by simpa using q))
def tFor (wi:TI) (g:TG) (tb:TS):TS:=fun D σ H=>wi σ H fun J H1=>∃ W:Nat→Nat→St→Hp→Prop,(∃ m,W 0 m σ H1)∧∀ i m σ H,W i m σ H →
 (J.stop i H∧D.nx σ H)∨(J.go i H∧∃ N:St→Hp→Prop,(∀ σ' H',N σ' H'→∃ m',m' < m∧W (i + 1) m' σ' H')∧∀ x H',J.yld i H x H'→g x σ H' fun σ2 H2=>tb { D with nx:=N,ct:=N,bk:=D.nx } σ2 H2)
def q6e (fp:List Addr) (h:Heap):List (Addr×Obj):=fp.filterMap fun b=>(h.get? b).map fun o=>(b,o)
theorem q2n {fp:List Addr} {h:Heap} {b:Addr} {o:Obj} (hb:b ∈ fp) (e:h.get? b=some o):(b,o) ∈ q6e fp h:=List.mem_filterMap.mpr ⟨b,hb,by rw[e];rfl⟩
theorem qe9 {fp:List Addr} {h:Heap} {p:Addr×Obj} (hp:p ∈ q6e fp h):p.1 ∈ fp∧h.get? p.1=some p.2:=by
 obtain⟨b,hb,e⟩:=List.mem_filterMap.mp hp
 cases q:h.get? b with
 | none=>rw[q]at e;cases e
 | some o =>
  rw[q]at e
  have e':(b,o)=p:=Option.some.inj e
  subst e'
  exact⟨hb,q⟩
theorem Inv.pinned {pins:List (Addr×Obj)} {σ:St} {H:Hp} {s:Shared} {fp:List Addr} (I:Inv X pins σ H s) (hf:∀ b ∈ fp,FpOk X pins H b) (ho:∀ b ∈ fp,∃ o,s.heap.get? b=some o∧∀ v,o.data ≠ .cell v):Inv X (pins ++ q6e fp s.heap) σ H s :=
 I.pins_of fun p hp=>(List.mem_append.mp hp).elim (fun z=>I.pin p (List.mem_append_right _ z)) fun z=>by
  obtain⟨hb,e⟩:=qe9 z
  obtain⟨f0,f1,f2,_⟩:=hf p.1 hb
  obtain⟨o,e',d⟩:=ho p.1 hb
  rw[e]at e';cases e'
  exact⟨e,f0,f1,f2,d⟩
theorem Inv.unpinned {pins pl:List (Addr×Obj)} {σ:St} {H:Hp} {s:Shared} (I:Inv X (pins ++ pl) σ H s):Inv X pins σ H s:=I.pins_of fun p hp=>I.pin p (List.mem_append_right _ (List.mem_append_left _ hp))
theorem q2e {iter:Expr} {body:List Stmt} {wi:TI} {g:TG} {tb:TS} {pos:Pos} (hp:PassesOwn (model X.prog X.w) X.A X.env X.xe) (hc:X.calm=true) (hi:PI X tg iter wi) (hg:PG X tg g) (hb:PSs X body tb)
  (hs:∀ x,foldedSetIterable iter X.env x=pure x:=by intro _;rfl):PS X (.For tg iter body [] pos) (tFor wi g tb):=by
 intro pins s σ H D I h
 refine wpAny_For (thn (hi pins s σ H _ I h) fun v s1 h1=>thn h1 fun itv s2 h2=> ?_) hs
 obtain⟨it,fp,tn,J,H2,e,I2,T,st2,f2,W,⟨m0,w0⟩,turn⟩:=h2
 subst e
 have stat:∀ {H':Hp},(∀ b ∈ fp,H' b=none)→∀ b ∈ fp,FpOk X pins H' b:=fun hn b hb=>⟨hn b hb,(f2 b hb).2⟩
 refine codeAny_forLoop_any (fun n s'=>∃ i σ' H',Inv X pins σ' H' s'∧tn i s'.heap∧(∀ b ∈ fp,H' b=none)∧W i n σ' H') ?_ m0 ⟨0,σ,H2,I2,st2,fun b hb=>(f2 b hb).1,w0⟩
 rintro n s3 ⟨i,σ3,H3,I3,st3,fr3,w3⟩
 rcases turn i n σ3 H3 w3 with ⟨stop,qn⟩ | ⟨go,N,hN,step⟩
 ·refine wpAny_passesOwn hp (thn (T.done X rfl rfl rfl hc i pins s3 σ3 H3 X.xe I3 (stat fr3) st3 stop) fun r s4 ⟨hr,I4⟩=> ?_)
  subst hr
  exact wpAny_execs_nil ⟨σ3,H3,I4,qn⟩
 ·refine wpAny_passesOwn hp (thn (T.item X rfl rfl rfl hc i pins s3 σ3 H3 X.xe I3 (stat fr3) st3 go) fun r s4 ⟨u,hr,h4⟩=> ?_)
  subst hr
  refine wpAny_passesOwn hp (thn h4 fun _ s5 ⟨x,H5,I5,r5,y5,st5,fr5⟩=> ?_)
  have I5':=I5.pinned (stat fr5) (T.obj _ _ st5)
  refine wpAny_passesOwn hp (thn (hg _ s5 σ3 H5 x u _ I5' r5 (step x H5 y5)) fun _ s6 ⟨σ6,H6,I6,q6⟩=> ?_)
  refine wpAny_passesOwn hp (thn (hb _ s6 σ6 H6 _ I6 q6) fun f s7 q7=> ?_)
  have again:∀ {σ7:St} {H7:Hp},Inv X (pins ++ q6e fp s5.heap) σ7 H7 s7→N σ7 H7→∃ m,m < n∧∃ i σ' H',Inv X pins σ' H' s7∧tn i s7.heap∧(∀ b ∈ fp,H' b=none)∧W i m σ' H':=fun {σ7 H7} I7 n7=>by
   obtain⟨m',hm,w7⟩:=hN σ7 H7 n7
   refine⟨m',hm,i + 1,σ7,H7,I7.unpinned,T.keep _ _ _ st5 fun b hb o e=>(I7.pin (b,o) (List.mem_append_right _ (List.mem_append_right _ (q2n hb e)))).1,fun b hb=> ?_,w7⟩
   obtain⟨o,e,d⟩:=T.obj _ _ st5 b hb
   exact(I7.pin (b,o) (List.mem_append_right _ (List.mem_append_right _ (q2n hb e)))).2.1
  cases f with
  | next=>obtain⟨σ7,H7,I7,n7⟩:=q7;exact again I7 n7
  | cont=>obtain⟨σ7,H7,I7,n7⟩:=q7;exact again I7 n7
  | brk=>obtain⟨σ7,H7,I7,q7⟩:=q7;exact⟨σ7,H7,I7.unpinned,q7⟩
  | ret v=>obtain⟨x7,σ7,H7,I7,r7,q7⟩:=q7;exact⟨x7,σ7,H7,I7.unpinned,r7,q7⟩
end
theorem q25 {K:PySem.W.Frag} {a:Addr} {xs:List V} {g:TG} {tb:TS} {D:Ends} {σ:St} {H:Hp} (Pv:Nat→St→Hp→Prop) (h0:Pv 0 σ H) (hl:∀ i σ H,i≤xs.length→Pv i σ H→SqL K H a xs)
  (hs:∀ i x σ H,xs[i]? = some x→Pv i σ H→g x σ H fun σ2 H2=>tb { D with nx:=Pv (i + 1),ct:=Pv (i + 1),bk:=D.nx } σ2 H2) (hd:∀ σ H,Pv xs.length σ H→D.nx σ H) :
  ∃ W:Nat→Nat→St→Hp→Prop,(∃ m,W 0 m σ H)∧∀ i m σ H,W i m σ H →
   ((Itl K a).stop i H∧D.nx σ H)∨((Itl K a).go i H∧∃ N:St→Hp→Prop,(∀ σ' H',N σ' H'→∃ m',m' < m∧W (i + 1) m' σ' H')∧∀ x H',(Itl K a).yld i H x H'→g x σ H' fun σ2 H2=>tb { D with nx:=N,ct:=N,bk:=D.nx } σ2 H2):=by
 refine⟨fun i m σ H=>m=xs.length - i∧i≤xs.length∧Pv i σ H,⟨xs.length,by simp,Nat.zero_le _,h0⟩,?_⟩
 rintro i m σ H ⟨rfl,hi,p⟩
 have q:=hl i σ H hi p
 by_cases hlt:i < xs.length
 ·refine .inr ⟨⟨xs,xs[i],q,by simp[hlt]⟩,Pv (i + 1),fun σ' H' p'=>⟨xs.length - (i + 1),by omega,rfl,hlt,p'⟩,fun x H' y=> ?_⟩
  obtain⟨e,y⟩:=y
  subst e
  exact hs i x σ _ (y xs q) p
 ·have e:i=xs.length:=by omega
  subst e
  exact .inl ⟨⟨xs,q,Nat.le_refl _⟩,hd σ H p⟩
theorem q26 {lo:Int} {n:Nat} {g:TG} {tb:TS} {D:Ends} {σ:St} {H:Hp} (Pv:Nat→St→Hp→Prop) (h0:Pv 0 σ H)
  (hs:∀ i σ H,i < n→Pv i σ H→g (.int (lo + i)) σ H fun σ2 H2=>tb { D with nx:=Pv (i + 1),ct:=Pv (i + 1),bk:=D.nx } σ2 H2) (hd:∀ σ H,Pv n σ H→D.nx σ H) :
  ∃ W:Nat→Nat→St→Hp→Prop,(∃ m,W 0 m σ H)∧∀ i m σ H,W i m σ H →
   ((Itr lo n).stop i H∧D.nx σ H)∨((Itr lo n).go i H∧∃ N:St→Hp→Prop,(∀ σ' H',N σ' H'→∃ m',m' < m∧W (i + 1) m' σ' H')∧∀ x H',(Itr lo n).yld i H x H'→g x σ H' fun σ2 H2=>tb { D with nx:=N,ct:=N,bk:=D.nx } σ2 H2):=by
 refine⟨fun i m σ H=>m=n - i∧i≤n∧Pv i σ H,⟨n,by simp,Nat.zero_le _,h0⟩,?_⟩
 rintro i m σ H ⟨rfl,hi,p⟩
 by_cases hlt:i < n
 ·refine .inr ⟨hlt,Pv (i + 1),fun σ' H' p'=>⟨n - (i + 1),by omega,rfl,hlt,p'⟩,fun x H' y=> ?_⟩
  obtain⟨e,y⟩:=y
  subst e y
  exact hs i σ _ hlt p
 ·have e:i=n:=by omega
  subst e
  exact .inl ⟨Nat.le_refl _,hd σ H p⟩
end L2
namespace L2
open PySem PySem.Spec PyProof.Rows
abbrev R2:=V→V→Hp→VK→Prop
def OpR (X:Cx) (f:Value→Value→Sem Value) (r:R2):Prop :=
 ∀ (pins:List (Addr×Obj)) (s:Shared) (σ:St) (H:Hp) (x y:V) (v u:Value) (Q:VK),Inv X pins σ H s→RelV x v→RelV y u→r x y H Q →
  wpAny (model X.prog X.w) X.A (f v u) (EP X pins σ Q) X.xe s
def UnR (X:Cx) (f:Value→Sem Value) (r:V→Hp→VK→Prop):Prop :=
 ∀ (pins:List (Addr×Obj)) (s:Shared) (σ:St) (H:Hp) (x:V) (v:Value) (Q:VK),Inv X pins σ H s→RelV x v→r x H Q →
  wpAny (model X.prog X.w) X.A (f v) (EP X pins σ Q) X.xe s
def q44 (X:Cx) (f:Value) (r:List V→Hp→VK→Prop):Prop :=
 ∀ (pins:List (Addr×Obj)) (s:Shared) (σ:St) (H:Hp) (xs:List V) (us:List Value) (Q:VK),Inv X pins σ H s→Vals xs us→r xs H Q →
  wpAny (model X.prog X.w) X.A (call f us) (EP X pins σ Q) X.xe s
def TruR (X:Cx) (r:V→Hp→(Bool→Hp→Prop)→Prop):Prop :=
 ∀ (pins:List (Addr×Obj)) (s:Shared) (σ:St) (H:Hp) (x:V) (v:Value) (Q:Bool→Hp→Prop),Inv X pins σ H s→RelV x v→r x H Q →
  wpAny (model X.prog X.w) X.A (truthy v) (TP X pins σ Q) X.xe s
def tOp (r:R2) (ta tb:TE):TE:=fun σ H Q=>ta σ H fun x H1=>tb σ H1 fun y H2=>r x y H2 Q
def tUn (r:V→Hp→VK→Prop) (ta:TE):TE:=fun σ H Q=>ta σ H fun x H1=>r x H1 Q
def rI (C:Int→Int→Prop) (g:Int→Int→V):R2:=fun x y H Q=>∃ i j,x= .int i∧y= .int j∧C i j∧Q (g i j) H
def rI0 (g:Int→Int→V):R2:=fun x y H Q=>∃ i j,x= .int i∧y= .int j∧Q (g i j) H
def rU (g:Int→V):V→Hp→VK→Prop:=fun x H Q=>∃ i,x= .int i∧Q (g i) H
section
variable {X:Cx} {a b c:Expr} {ta tb tc:TE} {pos:Pos}
theorem binT (ha:PE X a ta) (hb:PE X b tb) {pins:List (Addr×Obj)} {s:Shared} {σ:St} {H:Hp} {R:V→V→Hp→Prop} (I:Inv X pins σ H s)
  (h:ta σ H fun x H1=>tb σ H1 fun y H2=>R x y H2) {Q:Value→Shared→Prop} {f:Value→Value→Sem Value}
  (hf:∀ v u s2 x y H2,Inv X pins σ H2 s2→RelV x v→RelV y u→R x y H2→wpAny (model X.prog X.w) X.A (f v u) Q X.xe s2) :
  wpAny (model X.prog X.w) X.A (eval a X.env) (fun v s₁=>wpAny (model X.prog X.w) X.A (eval b X.env) (fun u s₂=>wpAny (model X.prog X.w) X.A (f v u) Q X.xe s₂) X.xe s₁) X.xe s:=by
 refine thn (ha pins s σ H _ I h) fun v s1 ⟨x,H1,I1,r1,q1⟩=> ?_
 refine thn (hb pins s1 σ H1 _ I1 q1) fun u s2 ⟨y,H2,I2,r2,q2⟩=> ?_
 exact hf v u s2 x y H2 I2 r1 r2 q2
theorem q0l {op:Operator} {r:R2} (ho:OpR X (binaryOp op) r) (ha:PE X a ta) (hb:PE X b tb):PE X (.BinOp a op b pos) (tOp r ta tb):=by
 intro pins s σ H Q I h
 exact wpAny_BinOp (binT ha hb I h fun v u s2 x y H2 I2 rx ry q=>ho pins s2 σ H2 x y v u Q I2 rx ry q)
theorem qgb {op:UnaryOp} {r:V→Hp→VK→Prop} (ho:UnR X (unaryOp op) r) (ha:PE X a ta):PE X (.UnaryOp op a pos) (tUn r ta):=by
 intro pins s σ H Q I h
 exact UnaryOp_ (thn (ha pins s σ H _ I h) fun v s1 ⟨x,H1,I1,r1,q1⟩=>ho pins s1 σ H1 x v Q I1 r1 q1)
theorem opI {f:Value→Value→Sem Value} {C:Int→Int→Prop} {g:Int→Int→Int}
  (rule:∀ (i j:Int) (t u:Tok) (s:Shared) (Q:Value→Shared→Prop) (E:Value→Shared→Prop),C i j→Q (.int (g i j) s.toks) { s with toks:=s.toks + 1 }→wpAny (model X.prog X.w) X.A (f (.int i t) (.int j u)) Q E s) :
  OpR X f (rI C fun i j=> .int (g i j)):=by
 intro pins s σ H x y v u Q I rx ry h
 obtain⟨i,j,rfl,rfl,hc,q⟩:=h
 obtain⟨t,rfl⟩:=rx
 obtain⟨t',rfl⟩:=ry
 exact rule i j t t' s _ _ hc ⟨.int (g i j),H,I.tok _,⟨_,rfl⟩,q⟩
theorem opI0 {f:Value→Value→Sem Value} {g:Int→Int→Int}
  (rule:∀ (i j:Int) (t u:Tok) (s:Shared) (Q:Value→Shared→Prop) (E:Value→Shared→Prop),Q (.int (g i j) s.toks) { s with toks:=s.toks + 1 }→wpAny (model X.prog X.w) X.A (f (.int i t) (.int j u)) Q E s) :
  OpR X f (rI0 fun i j=> .int (g i j)):=by
 intro pins s σ H x y v u Q I rx ry h
 obtain⟨i,j,rfl,rfl,q⟩:=h
 obtain⟨t,rfl⟩:=rx
 obtain⟨t',rfl⟩:=ry
 exact rule i j t t' s _ _ ⟨.int (g i j),H,I.tok _,⟨_,rfl⟩,q⟩
theorem opB0 {f:Value→Value→Sem Value} {g:Int→Int→Bool}
  (rule:∀ (i j:Int) (t u:Tok) (s:Shared) (Q:Value→Shared→Prop) (E:Value→Shared→Prop),Q (.bool (g i j)) s→wpAny (model X.prog X.w) X.A (f (.int i t) (.int j u)) Q E s) :
  OpR X f (rI0 fun i j=> .bl (g i j)):=by
 intro pins s σ H x y v u Q I rx ry h
 obtain⟨i,j,rfl,rfl,q⟩:=h
 obtain⟨t,rfl⟩:=rx
 obtain⟨t',rfl⟩:=ry
 exact rule i j t t' s _ _ ⟨.bl (g i j),H,I,rfl,q⟩
def CDiv (i j:Int):Prop:=0 < j∧j < 1073741824
def CMul (i j:Int):Prop:=(-(2 ^ 64) < i∧i < 2 ^ 64)∨(-(2 ^ 64) < j∧j < 2 ^ 64)
theorem CMul.ok {i j:Int} (h:CMul i j):IntMulOk i j:=by
 rcases h with ⟨h1,h2⟩ | ⟨h1,h2⟩
 ·exact .of_left (intBits_le_64 h1 h2)
 ·exact .of_right (intBits_le_64 h1 h2)
theorem q24:OpR X (binaryOp .Add) (rI0 fun i j=> .int (i + j)):=opI0 fun _ _ _ _ _ _ _ q=>add_int q
theorem q4j:OpR X (binaryOp .Sub) (rI0 fun i j=> .int (i - j)):=opI0 fun _ _ _ _ _ _ _ q=>sub_int q
theorem q1q:OpR X (binaryOp .Mult) (rI CMul fun i j=> .int (i * j)):=opI fun _ _ _ _ _ _ _ hc q=>mul_int q hc.ok
theorem q38:OpR X (binaryOp .FloorDiv) (rI CDiv fun i j=> .int (i / j)):=opI fun i j _ _ _ _ _ hc q=>by
 have h1:(0:Int) < j:=hc.1
 have h2:j < 1073741824:=hc.2
 exact floordiv_int (by omega) (by rw[Int.fdiv_eq_ediv_of_nonneg i (by omega)];exact q) (.inl (PyProof.noPylong_small (by omega)))
theorem q12:OpR X (binaryOp .Mod) (rI (fun _ j=>0 < j) fun i j=> .int (i % j)):=opI fun i j _ _ _ _ _ hc q=>by
 have h1:(0:Int) < j:=hc
 exact mod_int' (by omega) (by rw[Int.fmod_eq_emod_of_nonneg i (by omega)];exact q)
theorem unI {f:Value→Sem Value} {g:Int→Int}
  (rule:∀ (i:Int) (t:Tok) (s:Shared) (Q:Value→Shared→Prop) (E:Value→Shared→Prop),Q (.int (g i) s.toks) { s with toks:=s.toks + 1 }→wpAny (model X.prog X.w) X.A (f (.int i t)) Q E s) :
  UnR X f (rU fun i=> .int (g i)):=by
 intro pins s σ H x v Q I rx h
 obtain⟨i,rfl,q⟩:=h
 obtain⟨t,rfl⟩:=rx
 exact rule i t s _ _ ⟨.int (g i),H,I.tok _,⟨_,rfl⟩,q⟩
theorem qa6:UnR X (unaryOp .USub) (rU fun i=> .int (-i)):=unI fun _ _ _ _ _ q=>neg_int q
end
def scal:V→V→Bool
 | .non,.non=>true | .non,.int _=>true | .int _,.non=>true | .non,.bl _=>true | .bl _,.non=>true | .non,.str _=>true | .str _,.non=>true
 | .int _,.int _=>true | .bl _,.bl _=>true | .str _,.str _=>true | .byt _,.byt _=>true
 | .int _,.str _=>true | .str _,.int _=>true | .bl _,.str _=>true | .str _,.bl _=>true
 | _,_=>false
def rEq:R2:=fun x y H Q=>scal x y=true∧Q (.bl (decide (x=y))) H
def rNe:R2:=fun x y H Q=>scal x y=true∧Q (.bl (!decide (x=y))) H
theorem qdk {i j:Int}:decide (V.int i=V.int j)=(i == j):=by
 rw[Bool.eq_iff_iff]
 simp
theorem qh8 {i j:Bool}:decide (V.bl i=V.bl j)=(i == j):=by
 rw[Bool.eq_iff_iff]
 simp
theorem qds {i j:Str}:decide (V.str i=V.str j)=(i == j):=by
 rw[Bool.eq_iff_iff]
 simp
theorem qcd {i j:Array UInt8}:decide (V.byt i=V.byt j)=(i.toList == j.toList):=by
 rw[Bool.eq_iff_iff]
 cases i
 cases j
 simp
section
variable {X:Cx} {a b c:Expr} {ta tb tc:TE} {pos:Pos}
theorem q1h {pins:List (Addr×Obj)} {σ:St} {H:Hp} {s:Shared} {Q:VK} {k k':Bool} (I:Inv X pins σ H s) (q:Q (.bl k) H) (e:k=k'):EP X pins σ Q (.bool k') s:=by
 subst e
 exact⟨.bl k,H,I,rfl,q⟩
theorem q1i:OpR X (compareOp .Eq) rEq:=by
 intro pins s σ H x y v u Q I rx ry h
 obtain⟨hs,q⟩:=h
 cases x with
 | non =>
  cases rx
  cases y with
  | non=>cases ry;exact PySem.EqNone.eq_none_none (q1h I q (by simp))
  | bl j=>cases ry;exact PySem.EqNone.eq_none_bool (q1h I q (by simp))
  | int j=>obtain⟨t',rfl⟩:=ry;exact PySem.EqNone.eq_none_int (q1h I q (by simp))
  | str j=>obtain⟨t',rfl⟩:=ry;exact PySem.EqNone.eq_none_str (q1h I q (by simp))
  | _=>exact absurd (show false=true from hs) Bool.false_ne_true
 | bl i =>
  cases rx
  cases y with
  | non=>cases ry;exact PySem.EqNone.eq_bool_none (q1h I q (by simp))
  | bl j=>cases ry;exact eq_bool (q1h I q qh8)
  | str j=>obtain⟨t',rfl⟩:=ry;exact PySem.EqMixed.eq_bool_str (q1h I q (by simp))
  | _=>exact absurd (show false=true from hs) Bool.false_ne_true
 | int i =>
  obtain⟨t,rfl⟩:=rx
  cases y with
  | non=>cases ry;exact PySem.EqNone.eq_int_none (q1h I q (by simp))
  | int j=>obtain⟨t',rfl⟩:=ry;exact eq_int (q1h I q qdk)
  | str j=>obtain⟨t',rfl⟩:=ry;exact PySem.EqMixed.eq_int_str (q1h I q (by simp))
  | _=>exact absurd (show false=true from hs) Bool.false_ne_true
 | str i =>
  obtain⟨t,rfl⟩:=rx
  cases y with
  | non=>cases ry;exact PySem.EqNone.eq_str_none (q1h I q (by simp))
  | bl j=>cases ry;exact PySem.EqMixed.eq_str_bool (q1h I q (by simp))
  | int j=>obtain⟨t',rfl⟩:=ry;exact PySem.EqMixed.eq_str_int (q1h I q (by simp))
  | str j=>obtain⟨t',rfl⟩:=ry;exact eq_str (q1h I q qds)
  | _=>exact absurd (show false=true from hs) Bool.false_ne_true
 | byt i =>
  obtain⟨t,rfl⟩:=rx
  cases y with
  | byt j=>obtain⟨t',rfl⟩:=ry;exact PySem.W.eq_bytes (q1h I q qcd)
  | _=>exact absurd (show false=true from hs) Bool.false_ne_true
 | _=>cases y <;> exact absurd (show false=true from hs) Bool.false_ne_true
theorem q4c:OpR X (compareOp .NotEq) rNe:=by
 intro pins s σ H x y v u Q I rx ry h
 obtain⟨hs,q⟩:=h
 cases x with
 | non =>
  cases rx
  cases y with
  | non=>cases ry;exact PySem.EqNone.ne_none_none (q1h I q (by simp))
  | bl j=>cases ry;exact PySem.EqNone.ne_none_bool (q1h I q (by simp))
  | int j=>obtain⟨t',rfl⟩:=ry;exact PySem.EqNone.ne_none_int (q1h I q (by simp))
  | str j=>obtain⟨t',rfl⟩:=ry;exact PySem.EqNone.ne_none_str (q1h I q (by simp))
  | _=>exact absurd (show false=true from hs) Bool.false_ne_true
 | bl i =>
  cases rx
  cases y with
  | non=>cases ry;exact PySem.EqNone.ne_bool_none (q1h I q (by simp))
  | bl j=>cases ry;exact ne_bool (q1h I q (congrArg not qh8))
  | str j=>obtain⟨t',rfl⟩:=ry;exact PySem.EqMixed.ne_bool_str (q1h I q (by simp))
  | _=>exact absurd (show false=true from hs) Bool.false_ne_true
 | int i =>
  obtain⟨t,rfl⟩:=rx
  cases y with
  | non=>cases ry;exact PySem.EqNone.ne_int_none (q1h I q (by simp))
  | int j=>obtain⟨t',rfl⟩:=ry;exact ne_int (q1h I q (congrArg not qdk))
  | str j=>obtain⟨t',rfl⟩:=ry;exact PySem.EqMixed.ne_int_str (q1h I q (by simp))
  | _=>exact absurd (show false=true from hs) Bool.false_ne_true
 | str i =>
  obtain⟨t,rfl⟩:=rx
  cases y with
  | non=>cases ry;exact PySem.EqNone.ne_str_none (q1h I q (by simp))
  | bl j=>cases ry;exact PySem.EqMixed.ne_str_bool (q1h I q (by simp))
  | int j=>obtain⟨t',rfl⟩:=ry;exact PySem.EqMixed.ne_str_int (q1h I q (by simp))
  | str j=>obtain⟨t',rfl⟩:=ry;exact ne_str (q1h I q (congrArg not qds))
  | _=>exact absurd (show false=true from hs) Bool.false_ne_true
 | byt i =>
  obtain⟨t,rfl⟩:=rx
  cases y with
  | byt j=>obtain⟨t',rfl⟩:=ry;exact PySem.W.ne_bytes (q1h I q (congrArg not qcd))
  | _=>exact absurd (show false=true from hs) Bool.false_ne_true
 | _=>cases y <;> exact absurd (show false=true from hs) Bool.false_ne_true
theorem q5n:OpR X (compareOp .Lt) (rI0 fun i j=> .bl (decide (i < j))):=opB0 fun _ _ _ _ _ _ _ q=>lt_int q
theorem qiu:OpR X (compareOp .Gt) (rI0 fun i j=> .bl (decide (j < i))):=opB0 fun _ _ _ _ _ _ _ q=>gt_int q
theorem q72:OpR X (compareOp .GtE) (rI0 fun i j=> .bl (decide (j≤i))):=opB0 fun _ _ _ _ _ _ _ q=>ge_int q
theorem OpR.or {f:Value→Value→Sem Value} {r r':R2} (h:OpR X f r) (h':OpR X f r'):OpR X f (fun x y H Q=>r x y H Q∨r' x y H Q):=by
 intro pins s σ H x y v u Q I rx ry q
 rcases q with q | q
 ·exact h pins s σ H x y v u Q I rx ry q
 ·exact h' pins s σ H x y v u Q I rx ry q
theorem q0i (b:Expr) {op:CmpOp} (h:op ≠ .In:=by decide) (h2:op ≠ .NotIn:=by decide):behindInMarks op b=false:=by
 have e1:(op == CmpOp.In)=false:=by cases op <;> first | rfl | exact absurd rfl h
 have e2:(op == CmpOp.NotIn)=false:=by cases op <;> first | rfl | exact absurd rfl h2
 cases b <;> simp[behindInMarks,e1,e2]
theorem q2z {op:CmpOp} {r:R2} (ho:OpR X (compareOp op) r) (ha:PE X a ta) (hb:PE X b tb) (hm:behindInMarks op b=false):PE X (.Compare a [op] [b] pos) (tOp r ta tb):=by
 intro pins s σ H Q I h
 exact wpAny_Compare1 (binT ha hb I h fun v u s2 x y H2 I2 rx ry q=>ho pins s2 σ H2 x y v u Q I2 rx ry q) hm
def qja (t:TE):TT:=fun σ H Q=>t σ H fun x H'=>∃ k,x= .bl k∧Q k H'
theorem q0f {op:CmpOp} {r:R2} (ho:OpR X (compareOp op) r) (ha:PE X a ta) (hb:PE X b tb) (hm:behindInMarks op b=false):PT X (.Compare a [op] [b] pos) (qja (tOp r ta tb)):=by
 intro pins s σ H Q I h
 refine wpAny_isTrue_Compare1 (thn (ha pins s σ H _ I h) fun v s1 ⟨x,H1,I1,r1,q1⟩=>thn (hb pins s1 σ H1 _ I1 q1) fun u s2 ⟨y,H2,I2,r2,q2⟩ =>
  thn (ho pins s2 σ H2 x y v u _ I2 r1 r2 q2) fun c s3 ⟨z,H3,I3,r3,k,e,q3⟩=> ?_) hm
 subst e
 cases r3
 exact wpAny_truthy_bool ⟨H3,I3,q3⟩
def TruV (K:PySem.W.Frag) (x:V) (H:Hp) (k:Bool):Prop :=
 match x with
 | .non=>k=false
 | .bl b=>k=b
 | .int i=>k=(i != 0)
 | .str y=>y.length≤sizeLine∧k=((y.length:Int) != 0)
 | .byt y=>y.size≤sizeLine∧k=((y.size:Int) != 0)
 | .ref p=>(∃ xs,SqL K H p xs∧k= !xs.isEmpty)∨(∃ xs,SqT K H p xs∧k= !xs.isEmpty)∨∃ kvs,H p=some (.dK kvs)∧k= !kvs.isEmpty
 | _=>False
theorem qb8 {κ:Type} {kvs:List (κ×V)} {vs:List (κ×Value)} (r:KV kvs vs):(!vs.isEmpty)= !kvs.isEmpty:=by
 cases r <;> rfl
theorem q6k {xs:List V} {its:List Value} (r:Vals xs its):(!its.toArray.isEmpty)= !xs.isEmpty:=by
 cases r <;> simp
theorem q6r:(sizeLine:Nat) < 2 ^ 63:=by rw[sizeLine_eq];decide
theorem ql3:TruR X (fun x H Q=>∃ k,TruV X.K x H k∧Q k H):=by
 intro pins s σ H x v Q I rx h
 obtain⟨k,e,q⟩:=h
 have hl:=q6r
 have hs:sizeLine=16777216:=sizeLine_eq
 cases x with
 | non =>
  cases rx
  have e':k=false:=e
  subst e'
  exact truthy_none ⟨H,I,q⟩
 | bl b =>
  cases rx
  have e':k=b:=e
  subst e'
  exact wpAny_truthy_bool ⟨H,I,q⟩
 | int i =>
  obtain⟨t,rfl⟩:=rx
  have e':k=(i != 0):=e
  subst e'
  exact PySem.P.truthy_int ⟨H,I,q⟩
 | str y =>
  obtain⟨t,rfl⟩:=rx
  obtain⟨hy,e'⟩:y.length≤sizeLine∧k=((y.length:Int) != 0):=e
  subst e'
  exact PySem.P.truthy_str (by omega) ⟨H,I.tok _,q⟩
 | byt y =>
  obtain⟨t,rfl⟩:=rx
  obtain⟨hy,e'⟩:y.size≤sizeLine∧k=((y.size:Int) != 0):=e
  subst e'
  exact PySem.W.truthy_bytes (by omega) ⟨H,I.tok _,q⟩
 | ref p =>
  cases rx
  have e':(∃ xs,SqL X.K H p xs∧k= !xs.isEmpty)∨(∃ xs,SqT X.K H p xs∧k= !xs.isEmpty)∨∃ kvs,H p=some (.dK kvs)∧k= !kvs.isEmpty:=e
  rcases e' with ⟨xs,hx,e'⟩ | ⟨xs,hx,e'⟩ | ⟨kvs,hx,e'⟩
  ·subst e'
   obtain⟨its,r,pl,hz⟩:=I.list hx
   have hlen:=r.length
   exact wpAny_truthy_list pl.isList (by simp only[List.size_toArray];omega) ⟨H,I.tok _,by rw[q6k r];exact q⟩
  ·subst e'
   obtain⟨its,r,pl,hz⟩:=I.tuple hx
   have hlen:=r.length
   exact truthy_tuple pl (by simp only[List.size_toArray];omega) ⟨H,I.tok _,by rw[q6k r];exact q⟩
  ·subst e'
   obtain⟨hz,hS,vs,r,m⟩:kvs.length≤sizeLine∧(p == sysModules)=false∧∃ vs,KV kvs vs∧s.heap.DictOf (q1b X.prog X.w) p vs:=I.hok p _ hx
   have hlen:kvs.length=vs.length:=Paired.length r
   exact wpAny_truthy_dict hS m (by omega) ⟨H,I.tok _,by rw[qb8 r];exact q⟩
 | _=>exact(show False from e).elim
theorem qf0 (ha:PE X a ta) (he:∀ whole,isTrue a X.env whole=(do let v ← whole;standAt a.pos;holding [v] (truthy v))) :
  PT X a (fun σ H Q=>ta σ H fun x H'=>∃ k,TruV X.K x H' k∧Q k H'):=by
 intro pins s σ H Q I h
 exact isTrue_plain (thn (ha pins s σ H _ I h) fun v s1 ⟨x,H1,I1,r1,q1⟩=>ql3 pins s1 σ H1 x v Q I1 r1 q1) (he _)
theorem q3h:OpR X (binaryOp .Add) (fun x y H Q=>∃ i j,x= .str i∧y= .str j∧i.length + j.length≤sizeLine∧Q (.str (i ++ j)) H):=by
 intro pins s σ H x y v u Q I rx ry h
 obtain⟨i,j,rfl,rfl,hz,q⟩:=h
 obtain⟨t,rfl⟩:=rx
 obtain⟨t',rfl⟩:=ry
 exact add_str (fun t' tk=>⟨.str (i ++ j),H,I.tok _,⟨_,rfl⟩,q⟩) hz
theorem q5z {x:V} {us:List Value} (r:Vals [x] us):∃ u,us=[u]∧RelV x u:=by
 cases r with
 | cons r1 r2=>cases r2;exact⟨_,rfl,r1⟩
theorem qg5 {x y:V} {us:List Value} (r:Vals [x,y] us):∃ u w',us=[u,w']∧RelV x u∧RelV y w':=by
 cases r with
 | cons r1 r2 =>
  cases r2 with
  | cons r3 r4=>cases r4;exact⟨_,_,rfl,r1,r3⟩
theorem qc8:q44 X (.type "int") (fun xs H Q=>(∃ i,xs=[.int i]∧Q (.int i) H)∨∃ k,xs=[.bl k]∧Q (.int (if k then 1 else 0)) H):=by
 intro pins s σ H xs us Q I r h
 rcases h with ⟨i,rfl,q⟩ | ⟨k,rfl,q⟩
 ·obtain⟨u,rfl,t,rfl⟩:=q5z r
  exact call_int_int ⟨.int i,H,I,⟨_,rfl⟩,q⟩
 ·obtain⟨u,rfl,r1⟩:=q5z r
  cases r1
  exact call_int_bool ⟨.int (if k then 1 else 0),H,I.tok _,⟨_,rfl⟩,q⟩
end
end L2
namespace L2
open PySem PySem.Spec PyProof.Rows
structure ObjM (h:Heap) (x dx C:Addr) (mA:Str→Option Value):Prop where
 obj:h.get? x=some (PySem.W.instObj C dx)
 ns:h.Ns1 dx mA
 ne:dx ≠ x
theorem qdt {h:Heap} {dx:Addr} {mA:Str→Option Value} (n:h.Ns1 dx mA):∃ od,h.get? dx=some od∧∀ name,PySem.W.lookIn name od=some (mA name):=by
 obtain⟨o,es,ep,ho,hd,hk,_,hm⟩:=n
 refine⟨o,ho,fun name=> ?_⟩
 have e:=hm name
 unfold nsFind findBy at e
 rw[← Array.find?_toList]at e
 unfold PySem.W.lookIn
 rw[hd]
 dsimp only
 split
 ·rename_i y q
  rw[q]at e
  exact congrArg some e
 ·rename_i q
  rw[q]at e
  have a:es.toList.any (·.refKey)=false:=by
   rw[List.any_eq_false]
   intro y hy
   obtain⟨z,t,hkey⟩:=hk y (Array.mem_toList_iff.mp hy)
   simp[DictEntry.refKey,hkey]
  have a':¬ es.toList.any (·.refKey)=true:=by rw[a];exact Bool.false_ne_true
  rw[if_neg a']
  exact congrArg some e
theorem ObjM.look {h:Heap} {x dx C:Addr} {mA:Str→Option Value} (I:ObjM h x dx C mA):∃ od,PySem.W.InstAt h x (PySem.W.instObj C dx) C (some od)∧∀ name,PySem.W.lookIn name od=some (mA name) :=
 let ⟨od,ho,hl⟩:=qdt I.ns
 ⟨od,⟨I.obj,rfl,rfl,ho⟩,hl⟩
section
variable {prog:Program} {w:World} {A:Around} {E:Value→Shared→Prop} {s:Shared} {K:PySem.W.Frag} {x dx C f:Addr} {mA:Str→Option Value} {name:Str} {v:Value}
theorem qhs {expr:Bool} {Q:Value→Shared→Prop} (X:K.In s.heap) (I:ObjM s.heap x dx C mA) (hg:PySem.W.plainGet K C name=true) (hh:PySem.W.hasDictIn K C=true)
  (ha:PySem.W.findIn K (.ref C) name=some none) (hv:mA name=some v) (hv':PySem.W.handedIn v=true) (h:Q v { s with toks:=s.toks + 1 }) :
  wpAny (model prog w) A (getAttr (.ref x) name expr) Q E s:=by
 obtain⟨od,J,hl⟩:=I.look
 exact PySem.W.get_value X J (PySem.W.plainGet_of hg).1 (PySem.W.findObj_own hh ha rfl (by rw[hl,hv])) hv' h
theorem qeo {pl:Sem Bool} {Q:Value×List Value→Shared→Prop} (X:K.In s.heap) (I:ObjM s.heap x dx C mA) (hg:PySem.W.plainGet K C name=true)
  (hf:PySem.W.findIn K (.ref C) name=some (some (.ref f))) (ht:PySem.W.isFn K (.ref f)=true) (hv:mA name=none) (h:Q (.ref f,[.ref x]) s) :
  wpAny (model prog w) A (getMethod (.ref x) name pl) Q E s:=by
 obtain⟨od,J,hl⟩:=I.look
 exact PySem.W.method_fn X J (PySem.W.plainGet_of hg).1 (PySem.W.plainGet_of hg).2 hf (beq_iff_eq.mp ht) (by show (PySem.W.lookIn name od).map (·.isSome)=some false;rw[hl,hv];rfl) h
theorem qhk {ns:List Str} {Q:Unit→Shared→Prop} (X:K.In s.heap) (I:ObjM s.heap x dx C mA)
  (hs:PySem.W.findIn K (.ref C) "__setattr__" = some (some (.builtin "object.__setattr__"))) (hp:PySem.W.plainOver K C=true) (ht:PySem.W.takerIn K C name=some none) (hh:PySem.W.hasDictIn K C=true)
  (hw:PySem.Within mA ns) (hsz:ns.length≤sizeLine)
  (h:∀ h',ObjM h' x dx C (fun y=>if y=name then some v else mA y)→Heap.SameBut dx s.heap h'→Q () { s with heap:=h',toks:=s.toks + 2 }) :
  wpAny (model prog w) A (setAttr (.ref x) name v) Q E s:=by
 obtain⟨od,J,hl⟩:=I.look
 refine PySem.W.set_plain X J hs (PySem.W.osa_open (s:={ s with toks:=s.toks + 1 }) (r:=none) X J hp ht fun b=> ?_)
 obtain⟨cd,hc,hd'⟩:=PySem.W.any_some hh
 have hx:s.heap.get? x=some ⟨.ref C,some dx,.plain,#[]⟩:=I.obj
 refine wpAny_bind (wpAny_pure (wpAny_bind (wpAny_bind (wpAny_loadPart hx (wpAny_bind (PySem.W.Looks.here (s:={ s with toks:=s.toks + 1 }) (PySem.W.looks_clsIn X hc) ?_))))))
 rw[hd']
 refine wpAny_pure (a:=some dx) (wpAny_bind (wpAny_pure (wpAny_bind ?_)))
 refine wpAny_nsSet1 (s:={ s with toks:=s.toks + 1 }) I.ns fun h' hn2 hs2=> ?_
 obtain⟨oD,esD,epD,hoD,hdD,hcD⟩:=hn2.count (PySem.Within.cons name v hw)
 refine wpAny_bind (wpAny_lookBehind hoD (by rw[hdD];exact pastItsLine_dict (Nat.le_trans hcD (by rw[List.length_cons];omega))) ?_)
 exact wpAny_pure (h _ ⟨(hs2.2 _ (Ne.symm I.ne)).trans I.obj,hn2,I.ne⟩ hs2)
theorem qfi {R:Result→Shared→Prop} {vs:List Value} {kw:List (Str×Value)} (X:K.In s.heap) (hm:PySem.W.makesIn K C=true)
  (hi:PySem.W.findIn K (.ref C) "__init__" = some (some (.ref f))) (hf:PySem.W.typeIn K (.ref f)=some (.type "function"))
  (h:codeAny (model prog w) (A.under (.builtin "type.__call__" ⟨.ref C :: vs,kw⟩)) (.call (.ref f) ⟨.ref (s.heap.objs.size + 1) :: vs,kw⟩) (PySem.W.InitBack (s.heap.objs.size + 1) R)
   { s with heap:=(s.heap.push PySem.W.emptyDict).push (PySem.W.instObj C s.heap.objs.size) }) :
  codeAny (model prog w) A (.call (.ref C) ⟨vs,kw⟩) R s:=by
 obtain⟨hh,g,d,t,os⟩:=s
 exact PySem.W.make_core (PySem.W.makes_of X hm) (PySem.W.looks_findIn X hi) (fun self=>PySem.W.bind_fn X self hf) (.inl rfl) h
end
def putF (f:Str) (v:V):List (Str×V)→List (Str×V)
 | []=>[(f,v)]
 | (g,x) :: r=>if g=f then (g,v) :: r else (g,x) :: putF f v r
theorem q22 (f g:Str) (v:V):∀ fs:List (Str×V),(putF f v fs).lookup g=if g=f then some v else fs.lookup g
 | []=>by
  show List.lookup g [(f,v)]=_
  by_cases h:g=f
  ·have hb:(g == f)=true:=beq_iff_eq.mpr h
   simp only[List.lookup,hb,if_pos h]
  ·have hb:(g == f)=false:=beq_eq_false_iff_ne.mpr h
   simp only[List.lookup,hb,if_neg h]
 | (k,x) :: r=>by
  have ih:=q22 f g v r
  rw[show putF f v ((k,x) :: r)=(if k=f then (k,v) :: r else (k,x) :: putF f v r) from rfl]
  by_cases hk:k=f
  ·rw[if_pos hk]
   by_cases h:g=k
   ·have hb:(g == k)=true:=beq_iff_eq.mpr h
    simp only[List.lookup,hb,if_pos (h.trans hk)]
   ·have hb:(g == k)=false:=beq_eq_false_iff_ne.mpr h
    simp only[List.lookup,hb,if_neg (fun e:g=f=>h (e.trans hk.symm))]
  ·rw[if_neg hk]
   by_cases h:g=k
   ·have hb:(g == k)=true:=beq_iff_eq.mpr h
    simp only[List.lookup,hb,if_neg (fun e:g=f=>hk (h.symm.trans e))]
   ·have hb:(g == k)=false:=beq_eq_false_iff_ne.mpr h
    simp only[List.lookup,hb]
    exact ih
theorem q5v (f:Str) (v:V):∀ fs:List (Str×V),f ∈ (putF f v fs).map (·.1)∧∀ g,g ∈ fs.map (·.1)→g ∈ (putF f v fs).map (·.1)
 | []=>⟨by simp[putF],fun g h=>by simp at h⟩
 | (k,x) :: r=>by
  obtain⟨i1,i2⟩:=q5v f v r
  rw[show putF f v ((k,x) :: r)=(if k=f then (k,v) :: r else (k,x) :: putF f v r) from rfl]
  by_cases hk:k=f
  ·rw[if_pos hk]
   subst hk
   exact⟨by simp,fun g h=>by simpa using h⟩
  ·rw[if_neg hk]
   refine⟨?_,fun g h=> ?_⟩
   ·rw[List.map_cons]
    exact List.mem_cons_of_mem _ i1
   ·rw[List.map_cons]at h ⊢
    rcases List.mem_cons.mp h with e | e
    ·exact List.mem_cons.mpr (.inl e)
    ·exact List.mem_cons_of_mem _ (i2 g e)
theorem q5t (f:Str) (v:V):∀ fs:List (Str×V),(putF f v fs).length≤fs.length + 1
 | []=>by simp[putF]
 | (k,x) :: r=>by
  have ih:=q5t f v r
  rw[show putF f v ((k,x) :: r)=(if k=f then (k,v) :: r else (k,x) :: putF f v r) from rfl]
  by_cases hk:k=f
  ·rw[if_pos hk,List.length_cons,List.length_cons];omega
  ·rw[if_neg hk,List.length_cons,List.length_cons];omega
theorem RelO.some_of {v:V} {o:Option Value} (r:RelO (some v) o):∃ u,o=some u∧RelV v u:=by
 cases o with
 | none=>exact(show False from r).elim
 | some u=>exact⟨u,rfl,r⟩
theorem RelO.none_of {o:Option Value} (r:RelO none o):o=none:=by
 cases o with
 | none=>rfl
 | some u=>exact(show False from r).elim
theorem qe5 {v:V} {u:Value} (r:RelV v u):PySem.W.handedIn u=true:=by
 cases v with
 | non=>cases (show u=Value.none from r);rfl
 | bl b=>cases (show u=Value.bool b from r);rfl
 | int i=>obtain⟨t,e⟩:=(show ∃ t,u=Value.int i t from r);cases e;rfl
 | str x=>obtain⟨t,e⟩:=(show ∃ t,u=Value.str x t from r);cases e;rfl
 | byt b=>obtain⟨t,e⟩:=(show ∃ t,u=Value.bytes b t from r);cases e;rfl
 | flt b=>obtain⟨t,e⟩:=(show ∃ t,u=Value.float b t from r);cases e;rfl
 | ref a=>cases (show u=Value.ref a from r);rfl
 | ty n=>cases (show u=Value.type n from r);rfl
section
variable {P:Program} {w:World} {H H':Hp} {h h':Heap} {a C dx:Addr} {fs fs':List (Str×V)}
theorem q7e (hok:HOk P w H h) (e:H a=some (.ins C dx fs)):∃ mA,ObjM h a dx C mA∧(∀ f,RelO (fs.lookup f) (mA f))∧PySem.Within mA (fs.map (·.1))∧fs.length≤1000∧H dx=some (.own a):=by
 obtain⟨d,z,ne,ob,mA,n,r,q⟩:=(show q1n P w H h a (.ins C dx fs) from hok a _ e)
 exact⟨mA,⟨ob,n,ne⟩,r,q,z,d⟩
end
structure Cls (K:PySem.W.Frag) (C:Addr):Prop where
 pg:PySem.W.plainGet K C Str.empty=true
 hd:PySem.W.hasDictIn K C=true
 po:PySem.W.plainOver K C=true
 sa:PySem.W.findIn K (.ref C) "__setattr__" = some (some (.builtin "object.__setattr__"))
theorem Cls.get {K:PySem.W.Frag} {C:Addr} (c:Cls K C) (f:Str):PySem.W.plainGet K C f=true:=c.pg
def q2t (K:PySem.W.Frag) (C:Addr) (f:Str):Prop:=PySem.W.findIn K (.ref C) f=some none
theorem q2t.taker {K:PySem.W.Frag} {C:Addr} {f:Str} (n:q2t K C f):PySem.W.takerIn K C f=some none:=by
 unfold PySem.W.takerIn
 rw[show PySem.W.findIn K (.ref C) f=some none from n]
 rfl
structure Con (K:PySem.W.Frag) (C:Addr) (f:Str) (v:V) (u:Value):Prop where
 at_:PySem.W.findIn K (.ref C) f=some (some u)
 rel:RelV v u
 get:PySem.W.specialIn K u "__get__" = some none
 cp:PySem.W.copiedNames.contains f=false
structure Meth (K:PySem.W.Frag) (C:Addr) (m:Str) (f:Addr):Prop where
 at_:PySem.W.findIn K (.ref C) m=some (some (.ref f))
 fn:PySem.W.isFn K (.ref f)=true
 kp:PySem.W.keepIn K (.ref f)=true
section
variable {X:Cx} {pins:List (Addr×Obj)} {σ:St} {H:Hp} {s:Shared} {a C dx:Addr} {fs:List (Str×V)} {f:Str} {v:V} {A:Around} {E:Value→Shared→Prop}
theorem qbv {b:Bool} {Q:Value→Shared→Prop} (I:Inv X pins σ H s) (e:H a=some (.ins C dx fs)) (c:Cls X.K C) (n:q2t X.K C f) (l:fs.lookup f=some v)
  (h:∀ u s',Inv X pins σ H s'→RelV v u→Q u s'):wpAny (model X.prog X.w) A (getAttr (.ref a) f b) Q E s:=by
 obtain⟨mA,O,r,_,_,_⟩:=q7e I.hok e
 obtain⟨u,hu,ru⟩:=RelO.some_of (v:=v) (o:=mA f) (by rw[← l];exact r f)
 exact qhs I.kIn O (c.get f) c.hd n hu (qe5 ru) (h u _ (I.tok _) ru)
theorem q3l {m:Str} {g:Addr} {pl:Sem Bool} {Q:Value×List Value→Shared→Prop} (I:Inv X pins σ H s) (e:H a=some (.ins C dx fs)) (c:Cls X.K C) (k:Meth X.K C m g) (l:fs.lookup m=none)
  (h:Q (.ref g,[.ref a]) s):wpAny (model X.prog X.w) A (getMethod (.ref a) m pl) Q E s:=by
 obtain⟨mA,O,r,_,_,_⟩:=q7e I.hok e
 have hn:mA m=none:=RelO.none_of (by rw[← l];exact r m)
 exact qeo I.kIn O (c.get m) k.at_ k.fn hn h
theorem qbw {y:V} {u:Value} {Q:Unit→Shared→Prop} (I:Inv X pins σ H s) (e:H a=some (.ins C dx fs)) (c:Cls X.K C) (n:q2t X.K C f) (hl:fs.length < 1000) (ry:RelV y u)
  (h:∀ s',Inv X pins σ (upd H a (.ins C dx (putF f y fs))) s'→Q () s'):wpAny (model X.prog X.w) A (setAttr (.ref a) f u) Q E s:=by
 obtain⟨mA,O,r,wi,_,ho⟩:=q7e I.hok e
 have hz:(fs.map (·.1)).length≤sizeLine:=by rw[List.length_map,sizeLine_eq];omega
 refine qhk I.kIn O c.sa c.po n.taker c.hd wi hz fun h' O' sb=>h _ ?_
 have hd:∃ o,h'.get? dx=some o:=let ⟨o,_,_,e',_⟩:=O'.ns;⟨o,e'⟩
 refine I.write (x:=a) (e:=dx) (by rw[e];exact True.intro) (.inr ho) (fun b q hb z=>(sb.2 b hb).trans z) hd ?_
 refine⟨by rw[q0b O.ne];exact ho,?_,O.ne,O'.obj,_,O'.ns,fun g=> ?_,fun g hg=> ?_⟩
 ·have:=q5t f y fs;omega
 ·show RelO ((putF f y fs).lookup g) (if g=f then some u else mA g)
  rw[q22]
  by_cases q:g=f
  ·rw[if_pos q,if_pos q];exact ry
  ·rw[if_neg q,if_neg q];exact r g
 ·by_cases q:g=f
  ·rw[q];exact(q5v f y fs).1
  ·refine(q5v f y fs).2 g (wi g fun z=>hg ?_)
   show (if g=f then some u else mA g)=none
   rw[if_neg q];exact z
theorem Inv.made (I:Inv X pins σ H s):Inv X pins σ (upd (upd H s.heap.objs.size (.own (s.heap.objs.size + 1))) (s.heap.objs.size + 1) (.ins C s.heap.objs.size []))
  { s with heap:=(s.heap.push PySem.W.emptyDict).push (PySem.W.instObj C s.heap.objs.size) }:=by
 have e1:(s.heap.push PySem.W.emptyDict).get? s.heap.objs.size=some PySem.W.emptyDict:=Heap.get?_push_size s.heap rfl
 have e2:((s.heap.push PySem.W.emptyDict).push (PySem.W.instObj C s.heap.objs.size)).get? (s.heap.objs.size + 1)=some (PySem.W.instObj C s.heap.objs.size):=by
  have:=Heap.get?_push_size (s.heap.push PySem.W.emptyDict) (o:=PySem.W.instObj C s.heap.objs.size) rfl
  rwa [Heap.size_push]at this
 have e3:(s.heap.push PySem.W.emptyDict).Ns s.heap.objs.size (fun _=>none):=⟨PySem.W.emptyDict,#[],_,e1,rfl,(fun e he=>absurd he (by simp)),fun _=>rfl⟩
 have I1:=I.laid (a:=s.heap.objs.size) (o:= .own (s.heap.objs.size + 1)) (h':=s.heap.push PySem.W.emptyDict) (t':=s.toks) (fun b u q=>Heap.get?_push_of_some _ q) (Nat.le_refl _) ⟨_,e1⟩
 refine I1.laid (a:=s.heap.objs.size + 1) (o:= .ins C s.heap.objs.size []) (t':=s.toks) (fun b u q=>Heap.get?_push_of_some _ q) (Nat.le_of_eq (Heap.size_push _ _)) ?_
 have ne:s.heap.objs.size ≠ s.heap.objs.size + 1:=Nat.ne_of_lt (Nat.lt_succ_self _)
 refine⟨by rw[q0b ne,q03],Nat.zero_le _,ne,e2,fun _=>none,(Heap.Ns1.of_empty e3).at fun o q=>Heap.get?_push_of_some _ q,fun _=>True.intro,fun y hy=>absurd rfl hy⟩
theorem qhy {prog:Program} {w:World} {env:Env} {e:Expr} {f:Str} {pos:Pos} {s:Shared} {Q:Value→Shared→Prop} (hb:attributeBase e f env (eval e env)=eval e env)
  (h:wpAny (model prog w) A (eval e env) (fun o s₁=>wpAny (model prog w) A (getAttr o f true) Q E s₁) E s):wpAny (model prog w) A (eval (.Attribute e f pos) env) Q E s :=
 Attribute_any_ h (by rw[arm_eval_Attribute,hb])
end
def tFld (K:PySem.W.Frag) (ta:TE) (f:Str):TE:=fun σ H Q=>ta σ H fun x H1=>∃ a C dx fs v,x= .ref a∧H1 a=some (.ins C dx fs)∧Cls K C∧q2t K C f∧fs.lookup f=some v∧Q v H1
def sFld (K:PySem.W.Frag) (ta tv:TE) (f:Str):TS:=fun D σ H=>tv σ H fun y H1=>ta σ H1 fun x H2=>∃ a C dx fs,x= .ref a∧H2 a=some (.ins C dx fs)∧Cls K C∧q2t K C f∧fs.length < 1000 ∧
 D.nx σ (upd H2 a (.ins C dx (putF f y fs)))
section
variable {X:Cx} {o e value:Expr} {f:Str} {pos pos' tpos:Pos} {ta tv:TE}
theorem q1a (he:PE X e ta) (hb:attributeBase e f X.env (eval e X.env)=eval e X.env):PE X (.Attribute e f pos) (tFld X.K ta f):=by
 intro pins s σ H Q I h
 refine qhy hb (thn (he pins s σ H _ I h) fun u s1 ⟨x,H1,I1,rx,a,C,dx,fs,v,ex,ea,c,n,l,q⟩=> ?_)
 subst ex
 obtain rfl:u=Value.ref a:=rx
 exact qbv I1 ea c n l fun u' s2 I2 ru=>⟨v,H1,I2,ru,q⟩
theorem q39 (ha:PE X o ta) (hv:PE X value tv) (hs:swapsWith value (some (.Attribute o f pos')) pos.line X.env=pure false):PS X (.Assign [.Attribute o f pos'] value pos) (sFld X.K ta tv f):=by
 intro pins s σ H D I h
 refine plainObj_wpAny_Assign_Attribute (thn (hv pins s σ H _ I h) fun u s1 ⟨y,H1,I1,ry,q⟩=>thn (ha pins s1 σ H1 _ I1 q) fun ov s2 ⟨x,H2,I2,rx,a,C,dx,fs,ex,ea,c,n,l,q2⟩=> ?_) hs
 subst ex
 obtain rfl:ov=Value.ref a:=rx
 exact qbw I2 ea c n l ry fun s3 I3=>⟨σ,_,I3,q2⟩
end
section
variable {X:Cx} {pins:List (Addr×Obj)} {σ:St} {H:Hp} {s:Shared} {A:Around} {E:Value→Shared→Prop} {Q:Value→Shared→Prop} {c:Value} {b:Bool}
inductive TyOf (K:PySem.W.Frag) (H:Hp):V→Value→Prop where
 | non:TyOf K H .non (.type "NoneType")
 | bl (x:Bool):TyOf K H (.bl x) (.type "bool")
 | int (i:Int):TyOf K H (.int i) (.type "int")
 | str (x:Str):TyOf K H (.str x) (.type "str")
 | flt (x:UInt64):TyOf K H (.flt x) (.type "float")
 | lst {a:Addr} {xs:List V} (e:H a=some (.lst xs)):TyOf K H (.ref a) (.type "list")
 | frz {a:Addr} {o:Obj} {xs:List V} (e:H a=some (.frz o (.lst xs))):TyOf K H (.ref a) (.type "list")
 | tup {a:Addr} {xs:List V} (e:H a=some (.tup xs)):TyOf K H (.ref a) (.type "tuple")
 | dK {a:Addr} {kvs:List (Key×V)} (e:H a=some (.dK kvs)):TyOf K H (.ref a) (.type "dict")
 | dT {a:Addr} {kvs:List (List Key×V)} (e:H a=some (.dT kvs)):TyOf K H (.ref a) (.type "dict")
 | ins {a C dx:Addr} {fs:List (Str×V)} (e:H a=some (.ins C dx fs)) (cl:Cls K C) (ha:PySem.W.findIn K (.ref C) "__class__" = some (some (.builtin "object.__class__")))
   (hn:PySem.W.specialIn K (.builtin "object.__class__") "__get__" = some (some (.builtin "getset_descriptor.__get__"))) (htk:PySem.W.takesIn K (.builtin "object.__class__")=some true)
   (hm:PySem.W.mroIn K C (.type "object")=some true):TyOf K H (.ref a) (.ref C)
theorem qck {x:V} {u t:Value} (I:Inv X pins σ H s) (rx:RelV x u) (ty:TyOf X.K H x t) (e:PySem.W.kitOne X.K t c=some b) (h:∀ tk,Q (.bool b) { s with toks:=tk }) :
  wpAny (model X.prog X.w) A (call (.builtin "isinstance") [u,c]) Q E s:=by
 cases ty with
 | non=>cases (show u=Value.none from rx);exact PySem.W.kia_one PySem.W.kitx_none I.kIn True.intro e (fun z=>nomatch z) h
 | bl y=>cases (show u=Value.bool y from rx);exact PySem.W.kia_one PySem.W.kitx_bool I.kIn True.intro e (fun z=>nomatch z) h
 | int i=>obtain⟨t,q⟩:=(show ∃ t,u=Value.int i t from rx);cases q;exact PySem.W.kia_one PySem.W.kitx_int I.kIn True.intro e (fun z=>nomatch z) h
 | str y=>obtain⟨t,q⟩:=(show ∃ t,u=Value.str y t from rx);cases q;exact PySem.W.kia_one PySem.W.kitx_str I.kIn True.intro e (fun z=>nomatch z) h
 | flt y=>obtain⟨t,q⟩:=(show ∃ t,u=Value.float y t from rx);cases q;exact PySem.W.kia_one PySem.W.kitx_float I.kIn True.intro e (fun z=>nomatch z) h
 | @lst a xs ea =>
  cases (show u=Value.ref a from rx)
  obtain⟨_,_,n,_,h1⟩:=(show q1n X.prog X.w H s.heap a (.lst xs) from I.hok a _ ea)
  exact PySem.W.kia_one PySem.W.kitx_list I.kIn ⟨_,h1,rfl⟩ e (fun z=>nomatch z) h
 | @frz a ob xs ea =>
  cases (show u=Value.ref a from rx)
  obtain⟨_,_,_,n,_,h1⟩:=(show q1n X.prog X.w H s.heap a (.frz ob (.lst xs)) from I.hok a _ ea)
  exact PySem.W.kia_one PySem.W.kitx_list I.kIn ⟨_,h1,rfl⟩ e (fun z=>nomatch z) h
 | @tup a xs ea =>
  cases (show u=Value.ref a from rx)
  obtain⟨_,_,_,p⟩:=(show q1n X.prog X.w H s.heap a (.tup xs) from I.hok a _ ea)
  obtain⟨o,h1,h2,_⟩:=p
  exact PySem.W.kia_one PySem.W.kitx_tuple I.kIn ⟨o,h1,h2⟩ e (fun z=>nomatch z) h
 | @dK a kvs ea =>
  cases (show u=Value.ref a from rx)
  obtain⟨_,_,vs,_,p⟩:=(show q1n X.prog X.w H s.heap a (.dK kvs) from I.hok a _ ea)
  obtain⟨o,es,ep,h1,h2,_⟩:=p
  exact PySem.W.kia_one PySem.W.kitx_dict I.kIn ⟨o,h1,h2.1⟩ e (fun z=>nomatch z) h
 | @dT a kvs ea =>
  cases (show u=Value.ref a from rx)
  obtain⟨_,_,xs,_,o,es,ep,h1,h2,_⟩:=(show q1n X.prog X.w H s.heap a (.dT kvs) from I.hok a _ ea)
  exact PySem.W.kia_one PySem.W.kitx_dict I.kIn ⟨o,h1,h2.1⟩ e (fun z=>nomatch z) h
 | @ins a C dx fs ea cl ha hn htk hm =>
  cases (show u=Value.ref a from rx)
  obtain⟨mA,O,_⟩:=q7e I.hok ea
  obtain⟨od,J,_⟩:=O.look
  exact PySem.W.kia_one (PySem.W.kitx_own (cl.get _) cl.hd ha hn htk hm) I.kIn J e (fun z=>nomatch z) h
end
end L2
namespace L2
open PySem PySem.Spec PyProof.Rows
structure Room (k:Nat) (A:Around):Prop where
 hd:A.handled=none
 dp:A.depth + 3 * k + 5 < recursionLimit
 un:A.units + 16 * k + 200 < cLine
theorem Room.mono {j k:Nat} {A:Around} (r:Room k A) (h:j≤k):Room j A:=⟨r.hd,by have:=r.dp;omega,by have:=r.un;omega⟩
theorem Room.deeper {k:Nat} {A:Around} (r:Room (k + 1) A) (env:Env):Room k (A.deeper env) :=
 ⟨r.hd,by have:=r.dp;show A.depth + 1 + 3 * k + 5 < _;omega,by have:=r.un;show A.units + 3 + 16 * k + 200 < _;omega⟩
theorem qbb {A:Around} {C:Addr} {us:List Value} {kw:List (Str×Value)}:(A.under (.builtin "type.__call__" ⟨.ref C :: us,kw⟩)).depth=A.depth + 1:=by
 first | rfl | simp[Around.under,Code.weight,Code.isCreation,Code.isGuard,Code.isCaller,Code.frames,Code.isFrame,guardIds]
theorem qbi {A:Around} {C:Addr} {us:List Value} {kw:List (Str×Value)}:(A.under (.builtin "type.__call__" ⟨.ref C :: us,kw⟩)).units=A.units + 1:=by
 first | rfl | simp[Around.under,Code.cUnits,Code.frames,Code.isFrame]
theorem Room.make {k:Nat} {A:Around} (r:Room (k + 1) A) (C:Addr) (us:List Value) (kw:List (Str×Value)):Room k (A.under (.builtin "type.__call__" ⟨.ref C :: us,kw⟩)) :=
 ⟨r.hd,by have:=r.dp;rw[qbb];omega,by have:=r.un;rw[qbi];omega⟩
theorem Room.depth {k:Nat} {A:Around} (r:Room k A):A.depth < recursionLimit:=by have:=r.dp;omega
theorem Room.units {k:Nat} {A:Around} (r:Room k A):A.units + 64 < cLine:=by have:=r.un;omega
def tNil:TA:=fun _ H Q=>Q [] H
def q71 (ta:TE) (tr:TA):TA:=fun σ H Q=>ta σ H fun x H1=>tr σ H1 fun xs H2=>Q (x :: xs) H2
section
variable {X:Cx} {e:Expr} {es:List Expr} {te:TE} {t:TA} {pos:Pos}
theorem q05:PA X [] tNil:=fun _ _ _ _ H Q I h=>Calls.spliced_nil ⟨[],H,I,.nil,h⟩
theorem q00 (ha:PE X e te) (hr:PA X es t) (hs:starEach (e :: es) X.env=(false,eval e X.env) :: starEach es X.env:=by rfl):PA X (e :: es) (q71 te t):=by
 intro pos pins s σ H Q I h
 rw[hs]
 show wpAny _ _ (spliced ((false,eval e X.env) :: backTo pos (starEach es X.env))) _ _ s
 refine Calls.spliced_cons (thn (ha pins s σ H _ I h) fun u s1 ⟨x,H1,I1,r1,q1⟩=> ?_)
 exact thn (hr pos pins s1 σ H1 _ I1 q1) fun us s2 ⟨xs,H2,I2,r2,q2⟩=>⟨x :: xs,H2,I2,.cons r1 r2,q2⟩
def tTup (t:TA):TE:=fun σ H Q=>t σ H fun xs H1=>xs.length≤sizeLine∧∀ p,H1 p=none→Q (.ref p) (upd H1 p (.tup xs))
def tLst (t:TA):TE:=fun σ H Q=>t σ H fun xs H1=>xs.length≤sizeLine∧∀ p,H1 p=none→Q (.ref p) (upd H1 p (.lst xs))
theorem q19 {x1} (h:PA X es t):PE X (.Tuple es x1 pos) (tTup t):=by
 intro pins s σ H Q I hq
 refine wpAny_Tuple_spliced (thn (h pos pins s σ H _ I hq) fun us s1 ⟨xs,H1,I1,r,z,q⟩=>⟨by rw[← r.length];exact z,?_⟩)
 have hf:H1 s1.heap.objs.size=none:=I1.hok.fresh (Nat.le_refl _)
 refine⟨.ref s1.heap.objs.size,upd H1 s1.heap.objs.size (.tup xs),I1.laid (t':=s1.toks) (fun b u e=>Heap.get?_push_of_some _ e) (Nat.le_refl _) ?_,rfl,q _ hf⟩
 exact⟨z,us,r,⟨_,Heap.get?_push_size _ rfl,rfl,_,rfl⟩⟩
theorem q1t (h:PA X es t):PE X (.List es pos) (tLst t):=by
 intro pins s σ H Q I hq
 refine wpAny_List_spliced (thn (h pos pins s σ H _ I hq) fun us s1 ⟨xs,H1,I1,r,z,q⟩=>⟨by rw[← r.length];exact z,?_⟩)
 have hf:H1 s1.heap.objs.size=none:=I1.hok.fresh (Nat.le_refl _)
 refine⟨.ref s1.heap.objs.size,upd H1 s1.heap.objs.size (.lst xs),I1.laid (t':=s1.toks) (fun b u e=>Heap.get?_push_of_some _ e) (Nat.le_refl _) ?_,rfl,q _ hf⟩
 exact⟨z,us,0,r,Heap.get?_push_size _ rfl⟩
end
abbrev Sp:=List V→Hp→VK→XK→Prop
abbrev CXT:=List Env→Hp→Shared→XK→Value→Shared→Prop
structure Env0 (P:Program) (w:World) (K:PySem.W.Frag) (mg:Str→Option Value) (base:Heap) (A:Around) (outer:List Env) (s:Shared) (H:Hp):Prop where
 frames:A.frames=some outer
 mod:Mod K mg base
 bs:∀ b o,base.get? b=some o→s.heap.get? b=some o∧H b=none
 bsz:base.objs.size≤s.heap.objs.size
 funs:s.heap.FunFrames base outer
 frf:∀ b ∈ frs outer,H b=none
 hok:HOk P w H s.heap
 bare:AllBare s.gens
def CE (outer:List Env) (P:Program) (w:World) (H:Hp) (s:Shared) (Q:VK) (u:Value) (s':Shared):Prop :=
 ∃ v H',s'.os=s.os∧AllBare s'.gens∧Un (frs outer) [] H H' s.heap s'.heap∧HOk P w H' s'.heap∧RelV v u∧Q v H'
def CR (CX:CXT) (outer:List Env) (P:Program) (w:World) (H:Hp) (s:Shared) (Q:VK) (E:XK) (r:Result) (s':Shared):Prop :=
 match r with
 | .ok (.ret u)=>CE outer P w H s Q u s'
 | .ok _=>False
 | .error e=>CX outer H s E e s'
structure FnOk (P:Program) (w:World) (K:PySem.W.Frag) (mg:Str→Option Value) (base:Heap) (CX:CXT) (k:Nat) (f:Addr) (fd:FuncData) (ps:List Str) (sp:Sp):Prop where
 len:∀ vs H Q E,sp vs H Q E→vs.length=ps.length
 run:∀ (A:Around) (outer:List Env) (s:Shared) (H:Hp) (args:Args) (us:List Value) (vs:List V) (Q:VK) (E:XK),Room k A→Env0 P w K mg base A outer s H→BindsTo s fd args (ps.zip us)→Vals vs us→sp vs H Q E →
  codeAny (model P w) A (.call (.ref f) args) (CR CX outer P w H s Q E) s
theorem Env0.make {P:Program} {w:World} {K:PySem.W.Frag} {mg:Str→Option Value} {base:Heap} {A:Around} {outer:List Env} {s:Shared} {H:Hp} (e:Env0 P w K mg base A outer s H) (C:Addr) (us:List Value) (kw:List (Str×Value)) :
  Env0 P w K mg base (A.under (.builtin "type.__call__" ⟨.ref C :: us,kw⟩)) outer s H:=⟨by first | exact e.frames | (simpa [Around.under,Code.envs,Code.isFrame,pushEnvs] using e.frames),e.mod,e.bs,e.bsz,e.funs,e.frf,e.hok,e.bare⟩
section
variable {X:Cx} {pins:List (Addr×Obj)} {σ:St} {H:Hp} {s s':Shared}
theorem Inv.env0 (I:Inv X pins σ H s):Env0 X.prog X.w X.K X.mg X.base X.A X.stack s H :=
 ⟨I.ok.frames,I.ok.mod,I.bs,Nat.le_trans I.ok.bsz I.sz,I.stack,I.stkFree,I.hok,I.bare⟩
theorem Inv.after {Q:VK} {u:Value} (I:Inv X pins σ H s) (h:CE X.stack X.prog X.w H s Q u s'):EP X pins σ Q u s':=by
 obtain⟨v,H',os,bare,un,hok,r,q⟩:=h
 obtain⟨hh,g,d,t,os'⟩:=s'
 obtain rfl:os'=s.os:=os
 exact⟨v,H',I.call (h':=hh) (g':=g) (d':=d) (t':=t) (ch:=[]) un hok bare (fun b z=>absurd z (by simp)),r,q⟩
end
def qjk (sp:Sp) (dvs:List V) (E:XK) (t:TA):TE:=fun σ H Q=>t σ H fun vs H1=>sp (vs ++ dvs) H1 Q E
def qft (C:Addr) (m:Str) (sp:Sp) (dvs:List V) (E:XK) (ta:TE) (t:TA):TE:=fun σ H Q=>ta σ H fun x H1=>∃ a dx fs,x= .ref a∧H1 a=some (.ins C dx fs)∧fs.lookup m=none ∧
 t σ H1 fun vs H2=>sp (x :: (vs ++ dvs)) H2 Q E
def qkb (C:Addr) (sp:Sp) (dvs:List V) (E:XK) (t:TA):TE:=fun σ H Q=>t σ H fun vs H1=>∀ x dx,H1 x=none→H1 dx=none→dx ≠ x →
 sp (.ref x :: (vs ++ dvs)) (upd (upd H1 dx (.own x)) x (.ins C dx [])) (fun v H2=>v= .non∧Q (.ref x) H2) E
def q4g (K:PySem.W.Frag) (fd:FuncData) (ps:List Str) (ds:List Value):Prop :=
 ∀ (s:Shared) (us:List Value),K.In s.heap→(us ++ ds).length=ps.length→BindsTo s fd ⟨us,[]⟩ (ps.zip (us ++ ds))
theorem q4g.all {K:PySem.W.Frag} {fd:FuncData} {ps:List Str} (h:∀ us:List Value,us.length=ps.length→bindArgs fd ⟨us,[]⟩=pure (ps.zip us)):q4g K fd ps []:=fun s us _ hl=>by
 rw[List.append_nil]at hl ⊢
 exact .of_eq (h us hl)
def q3d (CX:CXT) (X:Cx) (E:XK):Prop:=∀ (pins:List (Addr×Obj)) (σ:St) (H:Hp) (s:Shared) (e:Value) (s':Shared),Inv X pins σ H s→CX X.stack H s E e s'→X.xe e s'
section
variable {X:Cx} {CX:CXT} {k:Nat} {f C:Addr} {fd:FuncData} {ps:List Str} {sp:Sp} {dvs:List V} {ds:List Value} {E:XK} {x m:Str} {p pos apos:Pos} {e o:Expr} {es:List Expr} {ta:TE} {t:TA}
theorem qda {pins:List (Addr×Obj)} {σ:St} {H:Hp} {s:Shared} {Q:VK} {us:List Value} {vs:List V} (F:FnOk X.prog X.w X.K X.mg X.base CX k f fd ps sp) (hr:Room k X.A) (hb:q4g X.K fd ps ds) (hd:Vals dvs ds) (hx:q3d CX X E)
  (I:Inv X pins σ H s) (r:Vals vs us) (h:sp (vs ++ dvs) H Q E):wpAny (model X.prog X.w) X.A (call (.ref f) us) (EP X pins σ Q) X.xe s:=by
 have r2:Vals (vs ++ dvs) (us ++ ds):=r.append hd
 have hl:(us ++ ds).length=ps.length:=by rw[← r2.length];exact F.len _ _ _ _ h
 refine wpAny_call (codeAny_mono (F.run X.A X.stack s H ⟨us,[]⟩ (us ++ ds) (vs ++ dvs) Q E hr I.env0 (hb s us I.kIn hl) r2 h) fun r s' hq=> ?_)
 cases r with
 | error e=>exact hx pins σ H s e s' I hq
 | ok fl =>
  cases fl with
  | ret u=>exact I.after hq
  | next=>exact False.elim hq
  | brk=>exact False.elim hq
  | cont=>exact False.elim hq
theorem qhi (F:FnOk X.prog X.w X.K X.mg X.base CX k f fd ps sp) (hr:Room k X.A) (hg:Gl X x) (hm:X.mg x=some (.ref f)) (hk:PySem.W.keepIn X.K (.ref f)=true) (hb:q4g X.K fd ps ds) (hd:Vals dvs ds) (hx:q3d CX X E)
  (ha:PA X (e :: es) t) (hdb:(x == ("__debug__" : Str))=false:=by decide) (he:starEach (e :: es) X.env=(false,eval e X.env) :: starEach es X.env:=by rfl) (hpl:(backTo pos (starEach es X.env)).any (·.1)=false:=by rfl) :
  PE X (.Call (.Name x p) (e :: es) [] pos) (qjk sp dvs E t):=by
 intro pins s σ H Q I h
 refine wpAny_Call_Name_kw (q5o I hg hm ?_ hdb)
 refine PySem.W.callWith_K (h₀:=X.base) I.ok.mod.kin hk (thn (ha pos pins s σ H _ I h) fun us s1 ⟨vs,H1,I1,r,q⟩=>⟨I1.kIn,?_⟩) he hpl
 exact qda F hr hb hd hx I1 r q
theorem qj6 {pl:Sem Bool} (he:PE X o ta) (c:Cls X.K C) (hm:Meth X.K C m f) (F:FnOk X.prog X.w X.K X.mg X.base CX k f fd ps sp) (hr:Room k X.A) (hb:q4g X.K fd ps ds) (hd:Vals dvs ds) (hx:q3d CX X E) (ha:PA X (e :: es) t)
  (hst:starEach (e :: es) X.env=(false,eval e X.env) :: starEach es X.env:=by rfl) (hpl:(backTo pos (starEach es X.env)).any (·.1)=false:=by rfl)
  (ht:eval (.Call (.Attribute o m apos) (e :: es) [] pos) X.env=(do
   let ov ← eval o X.env
   standAt apos.atName
   let (f,first) ← holding [ov] (getMethod ov m pl)
   callWith pos f first (backTo pos (starEach (e :: es) X.env)) (backToKw pos (keywordEach [] X.env))):=by rfl) :
  PE X (.Call (.Attribute o m apos) (e :: es) [] pos) (qft C m sp dvs E ta t):=by
 intro pins s σ H Q I h
 refine PySem.W.methodCall_KW (pl:=pl) (thn (he pins s σ H _ I h) fun u s1 ⟨x,H1,I1,rx,a,dx,fs,ex,ea,l,q⟩=> ?_) ht
 subst ex
 obtain rfl:u=Value.ref a:=rx
 refine q3l I1 ea c hm l ?_
 refine PySem.W.callWith_K (first:=[.ref a]) (h₀:=X.base) I.ok.mod.kin hm.kp (thn (ha pos pins s1 σ H1 _ I1 q) fun us s2 ⟨vs,H2,I2,r,q2⟩=>⟨I2.kIn,?_⟩) hst hpl
 exact qda (us:= .ref a :: us) (vs:= .ref a :: vs) F hr hb hd hx I2 (.cons rfl r) q2
theorem qfk {pl:Sem Bool} (he:PE X o ta) (c:Cls X.K C) (hm:Meth X.K C m f) (F:FnOk X.prog X.w X.K X.mg X.base CX k f fd ps sp) (hr:Room k X.A) (hb:q4g X.K fd ps ds) (hd:Vals dvs ds) (hx:q3d CX X E)
  (ht:eval (.Call (.Attribute o m apos) [] [] pos) X.env=(do
   let ov ← eval o X.env
   standAt apos.atName
   let (f,first) ← holding [ov] (getMethod ov m pl)
   callWith pos f first (backTo pos (starEach [] X.env)) (backToKw pos (keywordEach [] X.env))):=by rfl) :
  PE X (.Call (.Attribute o m apos) [] [] pos) (qft C m sp dvs E ta tNil):=by
 intro pins s σ H Q I h
 refine PySem.W.methodCall_KW (pl:=pl) (thn (he pins s σ H _ I h) fun u s1 ⟨x,H1,I1,rx,a,dx,fs,ex,ea,l,q⟩=> ?_) ht
 subst ex
 obtain rfl:u=Value.ref a:=rx
 refine q3l I1 ea c hm l ?_
 exact PySem.W.callWith_K0 (first:=[.ref a]) I1.kIn hm.kp (qda (us:=[.ref a]) (vs:=[.ref a]) F hr hb hd hx I1 (.cons rfl .nil) q)
structure Mk (K:PySem.W.Frag) (C f:Addr):Prop where
 makes:PySem.W.makesIn K C=true
 init:PySem.W.findIn K (.ref C) "__init__" = some (some (.ref f))
 fn:PySem.W.isFn K (.ref f)=true
 kp:PySem.W.keepIn K (.ref C)=true
theorem qek {pins:List (Addr×Obj)} {σ:St} {H:Hp} {s:Shared} {Q:VK} {us:List Value} {vs:List V} (M:Mk X.K C f) (F:FnOk X.prog X.w X.K X.mg X.base CX k f fd ps sp) (hr:Room (k + 1) X.A) (hb:q4g X.K fd ps ds) (hd:Vals dvs ds)
  (hx:q3d CX X E) (I:Inv X pins σ H s) (r:Vals vs us)
  (h:∀ x dx,H x=none→H dx=none→dx ≠ x→sp (.ref x :: (vs ++ dvs)) (upd (upd H dx (.own x)) x (.ins C dx [])) (fun v H2=>v= .non∧Q (.ref x) H2) E) :
  wpAny (model X.prog X.w) X.A (call (.ref C) us) (EP X pins σ Q) X.xe s:=by
 have hq:=h (s.heap.objs.size + 1) s.heap.objs.size (I.hok.fresh (Nat.le_succ _)) (I.hok.fresh (Nat.le_refl _)) (Nat.ne_of_lt (Nat.lt_succ_self _))
 have I2:=Inv.made (C:=C) I
 have r2:Vals (V.ref (s.heap.objs.size + 1) :: (vs ++ dvs)) (Value.ref (s.heap.objs.size + 1) :: (us ++ ds)):= .cons rfl (r.append hd)
 have hl:(Value.ref (s.heap.objs.size + 1) :: us ++ ds).length=ps.length:=by
  have e:=r2.length
  rw[F.len _ _ _ _ hq]at e
  exact e.symm
 refine wpAny_call (qfi (f:=f) I.kIn M.makes M.init (beq_iff_eq.mp M.fn) (codeAny_mono (F.run _ X.stack _ _ ⟨Value.ref (s.heap.objs.size + 1) :: us,[]⟩ (Value.ref (s.heap.objs.size + 1) :: (us ++ ds)) _ _ E (hr.make C us [])
  (I2.env0.make C us []) (hb _ (Value.ref (s.heap.objs.size + 1) :: us) I2.kIn hl) r2 hq) fun r s' hq'=> ?_))
 cases r with
 | error e=>exact hx pins σ _ _ e s' I2 hq'
 | ok fl =>
  cases fl with
  | ret u =>
   obtain⟨v,H',I3,rv,ev,q3⟩:=I2.after hq'
   subst ev
   exact⟨rv,⟨V.ref (s.heap.objs.size + 1),H',I3,rfl,q3⟩⟩
  | next=>exact False.elim hq'
  | brk=>exact False.elim hq'
  | cont=>exact False.elim hq'
theorem qje (M:Mk X.K C f) (F:FnOk X.prog X.w X.K X.mg X.base CX k f fd ps sp) (hr:Room (k + 1) X.A) (hg:Gl X x) (hm:X.mg x=some (.ref C)) (hb:q4g X.K fd ps ds) (hd:Vals dvs ds) (hx:q3d CX X E)
  (ha:PA X (e :: es) t) (hdb:(x == ("__debug__" : Str))=false:=by decide) (he:starEach (e :: es) X.env=(false,eval e X.env) :: starEach es X.env:=by rfl) (hpl:(backTo pos (starEach es X.env)).any (·.1)=false:=by rfl) :
  PE X (.Call (.Name x p) (e :: es) [] pos) (qkb C sp dvs E t):=by
 intro pins s σ H Q I h
 refine wpAny_Call_Name_kw (q5o I hg hm ?_ hdb)
 refine PySem.W.callWith_K (h₀:=X.base) I.ok.mod.kin M.kp (thn (ha pos pins s σ H _ I h) fun us s1 ⟨vs,H1,I1,r,q⟩=>⟨I1.kIn,?_⟩) he hpl
 exact qek M F hr hb hd hx I1 r q
end
section
variable {X:Cx} {CX:CXT} {k:Nat} {f C:Addr} {fd:FuncData} {ps ks:List Str} {sp:Sp} {E:XK} {x m:Str} {p pos apos kpos:Pos} {e o:Expr} {es:List Expr} {kws:List Keyword} {te ta:TE} {t tk:TA} {nm:Option Str}
structure KBinds (K:PySem.W.Frag) (fd:FuncData) (ps ks:List Str) (g:List Value→List Value→List Value) (gV:List V→List V→List V):Prop where
 to:∀ (s:Shared) (us ws:List Value),K.In s.heap→(g us ws).length=ps.length→BindsTo s fd ⟨us,ks.zip ws⟩ (ps.zip (g us ws))
 rel:∀ {vs:List V} {us:List Value} {zs:List V} {ws:List Value},Vals vs us→Vals zs ws→Vals (gV vs zs) (g us ws)
variable {g:List Value→List Value→List Value} {gV:List V→List V→List V}
end
structure FnScope (N P:List Str) (sc:Scope):Prop where
 kind:sc.kind= .function
 co:sc.isCoroutine=false
 gen:sc.isGenerator=false
 nd:N.Nodup
 pre:N.take P.length=P
 par:∀ x ∈ P,sc.names.lookup x=some .local∨sc.names.lookup x=some .cell
 nofree:∀ y ∈ sc.names,y.2 ≠ .free
theorem q8h {kindOf:Str→Option NameKind} {x:Str}:∀ {binds:List (Str×Value)} {m:Str→Option Value},(∀ v,(x,v) ∉ binds)→bindL kindOf binds m x=m x
 | [],_,_=>rfl
 | (n,v) :: r,m,h=>by
  unfold bindL
  rw[q8h fun w hw=>h w (List.mem_cons_of_mem _ hw)]
  split
  ·have:x ≠ n:=by rintro rfl;exact h v List.mem_cons_self
   simp[this]
  ·rfl
theorem q7t {kindOf:Str→Option NameKind} {x:Str}:∀ {binds:List (Str×Value)} {m:Str→Option Value},(∀ v,(x,v) ∉ binds)→bindC kindOf binds m x=m x
 | [],_,_=>rfl
 | (n,v) :: r,m,h=>by
  unfold bindC
  rw[q7t fun w hw=>h w (List.mem_cons_of_mem _ hw)]
  split
  ·rfl
  ·have:x ≠ n:=by rintro rfl;exact h v List.mem_cons_self
   simp[this]
theorem q85 {kindOf:Str→Option NameKind} {x:Str} {v:Value}:∀ {P:List Str} {vs:List Value} {i:Nat} {m:Str→Option Value},P.Nodup→P[i]? = some x→vs[i]? = some v→kindOf x=some .local →
  bindL kindOf (P.zip vs) m x=some v
 | [],_,_,_,_,h,_,_=>by simp at h
 | _ :: _,[],_,_,_,_,h,_=>by simp at h
 | p :: P,w :: vs,0,m,nd,h1,h2,hk=>by
  simp at h1 h2;subst h1;subst h2
  show bindL kindOf ((p,w) :: P.zip vs) m p=_
  unfold bindL
  rw[q8h fun v hv=>(List.nodup_cons.mp nd).1 (List.of_mem_zip hv).1,if_pos hk]
  simp
 | p :: P,w :: vs,i + 1,m,nd,h1,h2,hk=>by
  show bindL kindOf ((p,w) :: P.zip vs) m x=_
  unfold bindL
  exact q85 (i:=i) (List.nodup_cons.mp nd).2 (by simpa using h1) (by simpa using h2) hk
theorem q8d {kindOf:Str→Option NameKind} {x:Str} {v:Value}:∀ {P:List Str} {vs:List Value} {i:Nat} {m:Str→Option Value},P.Nodup→P[i]? = some x→vs[i]? = some v→kindOf x ≠ some .local →
  bindC kindOf (P.zip vs) m x=some v
 | [],_,_,_,_,h,_,_=>by simp at h
 | _ :: _,[],_,_,_,_,h,_=>by simp at h
 | p :: P,w :: vs,0,m,nd,h1,h2,hk=>by
  simp at h1 h2;subst h1;subst h2
  show bindC kindOf ((p,w) :: P.zip vs) m p=_
  unfold bindC
  rw[q7t fun v hv=>(List.nodup_cons.mp nd).1 (List.of_mem_zip hv).1,if_neg hk]
  simp
 | p :: P,w :: vs,i + 1,m,nd,h1,h2,hk=>by
  show bindC kindOf ((p,w) :: P.zip vs) m x=_
  unfold bindC
  exact q8d (i:=i) (List.nodup_cons.mp nd).2 (by simpa using h1) (by simpa using h2) hk
def start (N:List Str) (vs:List V):St:=vs.map some ++ List.replicate (N.length - vs.length) none
def cxOf (CX:CXT) (P:Program) (w:World) (K:PySem.W.Frag) (mg:Str→Option Value) (base:Heap) (N:List Str) (qual:Str) (scope:Scope) (f:Addr) (cd:Value) (A:Around) (outer:List Env) (s:Shared) (H:Hp) (E:XK):Cx where
 prog:=P
 w:=w
 K:=K
 mg:=mg
 base:=base
 A:=A.deeper (envOfC qual scope s.heap.objs.size f cd)
 N:=N
 s₀:=s
 H₀:=H
 env:=envOfC qual scope s.heap.objs.size f cd
 outer:=outer
 stack:=envOfC qual scope s.heap.objs.size f cd :: outer
 ex:=[]
 calm:=true
 fn:=fun _=>true
 pn:=[]
 xe:=fun e s'=>wpAny (model P w) (A.deeper (envOfC qual scope s.heap.objs.size f cd)) (leaving (envOfC qual scope s.heap.objs.size f cd) e) (fun _ s''=>CX outer H s E e s'') (fun e' s''=>CX outer H s E e' s'') s'
theorem q9m {sc:Scope} {n:Nat} {x:Str} (h:sc.names.lookup x=some .cell):∃ c,(cellsFrom n sc.names []).lookup x=some c:=by
 have q:=PySem.W.cellsFrom_some sc.names n [] (.inl h)
 exact Option.isSome_iff_exists.mp q
theorem qcc {CX:CXT} {P:Program} {w:World} {K:PySem.W.Frag} {mg:Str→Option Value} {base:Heap} {N ps:List Str} {qual:Str} {scope:Scope} {f:Addr} {cd:Value} {A:Around} {outer:List Env} {s s1:Shared} {H:Hp} {E:XK} {us:List Value} {vs:List V}
  (S:FnScope N ps scope) (hd:A.handled=none) (e0:Env0 P w K mg base A outer s H) (hl:vs.length=ps.length) (r:Vals vs us)
  (x:InCallC s s.heap.objs.size (bindL (envOfC qual scope s.heap.objs.size f cd).kindOf (ps.zip us) fun _=>none) (cellsFrom (s.heap.objs.size + 1) scope.names []) (bindC (envOfC qual scope s.heap.objs.size f cd).kindOf (ps.zip us) fun _=>none) s1) :
  Inv (cxOf CX P w K mg base N qual scope f cd A outer s H E) [] (start N vs) H s1:=by
 have hpl:ps.length≤N.length:=by have:=congrArg List.length S.pre;rw[List.length_take]at this;omega
 obtain⟨h1,tk,rfl,hk⟩:=x.done
 have noA:∀ b:Addr,b ∉ (cxOf CX P w K mg base N qual scope f cd A outer s H E).ex:=fun b z=>absurd (show b ∈ ([]:List Addr) from z) (by simp)
 refine⟨⟨e0.mod,S.kind,rfl,rfl,Nat.le_refl _,fun y z c h1 h2=> ?_,fun y hy=> ?_,fun y c _ h=> ?_,fun _=>hd,Around.frames_deeper e0.frames,.inr ⟨rfl,rfl⟩,fun b z=>absurd z (noA b),e0.bs,e0.bsz,fun b _ _=>noA b,fun b z=>absurd z (noA b),e0.funs,e0.frf⟩,
  rfl,e0.bare,Un.kept hk,⟨_,x.toInCall.ns,fun i y v h1 h2 h3=> ?_⟩,fun y c h=>⟨_,x.cell y c h⟩,e0.hok.fresh (Nat.le_refl _),fun y c h=> ?_,fun p hp=>absurd (show p ∈ ([]:List (Addr×Obj)) from hp) (by simp),e0.hok.kept hk,?_⟩
 ·exact name_of_addr x.apart (PySem.mem_of_lookup h1) (PySem.mem_of_lookup h2)
 ·have hy:scope.names.lookup y=some .cell∨scope.names.lookup y=some .free:=hy
  rcases hy with hy | hy
  ·exact q9m hy
  ·exact absurd rfl (S.nofree _ (PySem.mem_of_lookup hy))
 ·exact Nat.le_of_lt (x.above y c (PySem.mem_of_lookup h))
 ·have hi:i < vs.length:=by
   unfold start at h2
   by_cases hi:i < vs.length
   ·exact hi
   ·rw[List.getElem?_append_right (by simpa using hi)]at h2
    rw[List.getElem?_replicate]at h2
    split at h2 <;> cases h2
  have ha:vs[i]? = some v:=by
   unfold start at h2
   rw[List.getElem?_append_left (by simpa using hi),List.getElem?_map]at h2
   cases e:vs[i]? with
   | none=>rw[e]at h2;cases h2
   | some a=>rw[e]at h2;cases h2;rfl
  obtain⟨u,hu,rv⟩:=r.get ha
  have hp:ps[i]? = some y:=by
   rw[← S.pre,List.getElem?_take_of_lt (by omega)];exact h1
  have ndP:ps.Nodup:=by rw[← S.pre];exact S.nd.sublist (List.take_sublist _ _)
  refine⟨u,rv,?_⟩
  rcases S.par y (List.mem_of_getElem? hp) with k | k
  ·exact .inl ⟨k,q85 ndP hp hu k⟩
  ·obtain⟨c,e⟩:=q9m (n:=s.heap.objs.size + 1) k
   refine .inr ⟨.inl k,c,e,?_⟩
   have q:=x.cell y c e
   rw[q8d ndP hp hu (by show scope.names.lookup y ≠ _;rw[k];decide)]at q
   exact q
 ·exact e0.hok.fresh (Nat.le_of_lt (x.above y c (PySem.mem_of_lookup h)))
 ·unfold start
  show _=N.length
  rw[List.length_append,List.length_map,List.length_replicate]
  omega
theorem ql8 {CX:CXT} {P:Program} {w:World} {K:PySem.W.Frag} {mg:Str→Option Value} {base:Heap} {k:Nat} {f:Addr} {name qual:Str} {params:Arguments} {body:List Stmt} {scope:Scope} {dV kV doc pm cdv ct oc:Value} {an od:Option Addr}
  {osl:Array (Option Value)} {N ps:List Str} {sp:Sp} (lk:K.lookup f=some ⟨oc,od,.func (PySem.W.fnOf name qual params body scope dV kV doc pm an cdv ct),osl⟩) (hcd:PySem.W.codeIn K cdv qual=true) (S:FnScope N ps scope)
  (len:∀ vs H Q E,sp vs H Q E→vs.length=ps.length)
  (hbody:∀ (A:Around) (outer:List Env) (s:Shared) (H:Hp) (vs:List V) (Q:VK) (E:XK),Room k (A.deeper (envOfC qual scope s.heap.objs.size f cdv))→sp vs H Q E →
   ∃ t,PSs (cxOf CX P w K mg base N qual scope f cdv A outer s H E) body t∧t { nx:=fun _ H'=>Q .non H',rt:=Q } (start N vs) H) :
  FnOk P w K mg base CX (k + 1) f (PySem.W.fnOf name qual params body scope dV kV doc pm an cdv ct) ps sp:=by
 refine⟨len,fun A outer s H args us vs Q E hr e0 hb r hsp=> ?_⟩
 have hl:=len _ _ _ _ hsp
 have KX:K.In s.heap:=e0.mod.kin.keeps fun b o e=>(e0.bs b o e).1
 have lim:s.heap.NoLimit:=e0.mod.nolimit.keeps fun b o e=>(e0.bs b o e).1
 have hkind:∀ y ∈ ps.zip us,scope.names.lookup y.1=some .local∨(scope.names.lookup y.1=some .cell∧((cellsFrom (s.heap.objs.size + 1) scope.names []).lookup y.1).isSome=true):=fun ⟨n,v⟩ hy=>by
  rcases S.par n (List.of_mem_zip hy).1 with q | q
  ·exact .inl q
  ·exact .inr ⟨q,PySem.W.cellsFrom_some _ _ _ (.inl q)⟩
 refine codeAny_call_function hr.depth (KX _ _ lk) rfl S.co S.gen rfl (PySem.W.codeRec_of KX hcd) (hb _ _ _ _ ?_)
 refine wpAny_newFunctionEnv_cells S.kind hkind fun env he s1 x=> ?_
 subst he
 refine⟨lim.keeps x.toInCall.keep,codeAny_func ?_⟩
 obtain⟨t,ht,hq⟩:=hbody A outer s H vs Q E (hr.deeper _) hsp
 have I:Inv (cxOf CX P w K mg base N qual scope f cdv A outer s H E) [] (start N vs) H s1:=qcc S hr.hd e0 hl r x
 refine wpAny_mono (ht [] s1 (start N vs) H _ I hq) (fun fl s' hs=> ?_) fun e s' hs=>hs
 have fin:∀ {σ':St} {H':Hp} {v:V} {u:Value},Inv (cxOf CX P w K mg base N qual scope f cdv A outer s H E) [] σ' H' s'→RelV v u→Q v H'→CE outer P w H s Q u s' :=
  fun {σ' H' v u} J rv q=>⟨v,H',J.os,J.bare,J.base,J.hok,rv,q⟩
 cases fl with
 | ret u =>
  obtain⟨v,σ',H',J,rv,q⟩:=hs
  exact fin J rv q
 | next =>
  obtain⟨σ',H',J,q⟩:=hs
  exact fin (v:=V.non) (u:=Value.none) J rfl q
 | brk =>
  obtain⟨_,_,_,q⟩:=hs
  exact False.elim q
 | cont =>
  obtain⟨_,_,_,q⟩:=hs
  exact False.elim q
end L2
namespace L2
open PySem PySem.Spec PyProof.Rows
section
variable {X:Cx} {x:Str} {p pos:Pos} {e:Expr} {es:List Expr} {t:TA} {id T:String} {r:List V→Hp→VK→Prop}
def tCB (r:List V→Hp→VK→Prop) (t:TA):TE:=fun σ H Q=>t σ H fun vs H1=>r vs H1 Q
theorem q0e (hc:q44 X (.builtin id) r) (hg:Gl X x) (hm:X.mg x=none) (hv:bootBuiltins x=some (.builtin id)) (ha:PA X (e :: es) t) (hn:x ≠ "__name__" := by decide) (hdb:(x == ("__debug__" : Str))=false:=by decide)
  (he:starEach (e :: es) X.env=(false,eval e X.env) :: starEach es X.env:=by rfl) (hpl:(backTo pos (starEach es X.env)).any (·.1)=false:=by rfl):PE X (.Call (.Name x p) (e :: es) [] pos) (tCB r t):=by
 intro pins s σ H Q I h
 refine wpAny_Call_Name_kw (qaf I hg hm hv ?_ hn hdb)
 exact PyProof.Rows.callWith_builtin1 (thn (ha pos pins s σ H _ I h) fun us s1 ⟨vs,H1,I1,r1,q1⟩=>hc pins s1 σ H1 vs us Q I1 r1 q1) he hpl
theorem q2b (hc:q44 X (.type T) r) (hg:Gl X x) (hm:X.mg x=none) (hv:bootBuiltins x=some (.type T)) (ha:PA X (e :: es) t) (hn:x ≠ "__name__" := by decide) (hdb:(x == ("__debug__" : Str))=false:=by decide)
  (he:starEach (e :: es) X.env=(false,eval e X.env) :: starEach es X.env:=by rfl) (hpl:(backTo pos (starEach es X.env)).any (·.1)=false:=by rfl):PE X (.Call (.Name x p) (e :: es) [] pos) (tCB r t):=by
 intro pins s σ H Q I h
 refine wpAny_Call_Name_kw (qaf I hg hm hv ?_ hn hdb)
 exact PyProof.Rows.callWith_type1 (thn (ha pos pins s σ H _ I h) fun us s1 ⟨vs,H1,I1,r1,q1⟩=>hc pins s1 σ H1 vs us Q I1 r1 q1) he hpl
end
end L2
namespace HT
open PySem PyProof.Rows
section
open PySem.SeqAt
open PySem.AutoSeq1 (wpAny_loadPart')
open PySem.MeetsSeq PySem.MeetsSeq2 PySem.MeetsSeq3
end
section
variable {prog:Program} {w:World} {A:Around} {E:Value→Shared→Prop} {s:Shared}
def sIx (n d:Nat):Option Int→Nat
 | none=>d
 | some v=>if v < 0 then (v + (n:Int)).toNat else min v.toNat n
end
end HT
namespace L2
open PySem PySem.Spec PyProof.Rows
abbrev TO:=St→Hp→(Option Int→Hp→Prop)→Prop
def PO (X:Cx) (e:Option Expr) (t:TO):Prop :=
 ∀ (pins:List (Addr×Obj)) (s:Shared) (σ:St) (H:Hp) (Q:Option Int→Hp→Prop),Inv X pins σ H s→t σ H Q →
  wpAny (model X.prog X.w) X.A (evalPart e X.env) (fun u s'=>∃ o H',Inv X pins σ H' s'∧IsPart u o∧Q o H') X.xe s
def qlq (t:TE):TO:=fun σ H Q=>t σ H fun x H1=>∃ i,x= .int i∧Q (some i) H1
section
variable {X:Cx} {e:Expr} {te:TE} {lo hi:Option Expr} {tl th:TO} {pos p2:Pos}
theorem qdc (h:PE X e te):PO X (some e) (qlq te):=by
 intro pins s σ H Q I hw
 rw[evalPart_some]
 refine thn (h pins s σ H _ I hw) fun u s1 ⟨x,H1,I1,r1,q1⟩=> ?_
 obtain⟨i,rfl,q⟩:=q1
 obtain⟨t,rfl⟩:=r1
 exact⟨some i,H1,I1,.int i t,q⟩
def SlR (X:Cx) (r:V→Option Int→Option Int→Hp→VK→Prop):Prop :=
 ∀ (pins:List (Addr×Obj)) (s:Shared) (σ:St) (H:Hp) (x:V) (v vl vu:Value) (lo hi:Option Int) (sl:Addr) (Q:VK),Inv X pins σ H s→RelV x v→s.heap.IsSliceOf sl vl vu .none→IsPart vl lo→IsPart vu hi→r x lo hi H Q →
  ∃ T id,typeLookup (.type T) "__getitem__" = pure (some (.builtin id))∧s.TypeIs v T∧wpAny (model X.prog X.w) X.A (getItem v (.ref sl)) (EP X pins σ Q) X.xe s
def tSl (r:V→Option Int→Option Int→Hp→VK→Prop) (te:TE) (tl th:TO):TE:=fun σ H Q=>te σ H fun x H1=>tl σ H1 fun l H2=>th σ H2 fun u H3=>r x l u H3 Q
theorem qey {r:V→Option Int→Option Int→Hp→VK→Prop} (hr:SlR X r) (he:PE X e te) (hl:PO X lo tl) (hu:PO X hi th):PE X (.Subscript e (.Slice lo hi none p2) pos) (tSl r te tl th):=by
 intro pins s σ H Q I h
 refine Subscript_ (thn (he pins s σ H _ I h) fun v s1 ⟨x,H1,I1,r1,q1⟩=> ?_)
 refine wpAny_Slice (thn (hl pins s1 σ H1 _ I1 q1) fun vl s2 ⟨l,H2,I2,pl,q2⟩=>thn (hu pins s2 σ H2 _ I2 q2) fun vu s3 ⟨u,H3,I3,pu,q3⟩=> ?_)
 rw[evalPart_none]
 refine wpAny_pure ?_
 have I4:Inv X pins σ H3 { s3 with heap:=s3.heap.push { cls:= .type "slice",data:= .fields #[vl,vu,.none] } }:=I3.kept (t':=s3.toks) fun b ob q=>Heap.get?_push_of_some _ q
 obtain⟨T,id,hT,ht,hg⟩:=hr pins { s3 with heap:=s3.heap.push { cls:= .type "slice",data:= .fields #[vl,vu,.none] } } σ H3 x v vl vu l u s3.heap.objs.size Q I4 r1 (Heap.IsSliceOf.new ..) pl pu q3
 show wpAny (model X.prog X.w) X.A (subscriptTail e (.Slice lo hi none p2) v (.ref s3.heap.objs.size)) (EP X pins σ Q) X.xe { s3 with heap:=s3.heap.push { cls:= .type "slice",data:= .fields #[vl,vu,.none] } }
 exact tail_any (ops:=[.ref s3.heap.objs.size,v]) ht hT hg (by with_unfolding_all rfl)
def cutV (xs:List V) (lo hi:Option Int):List V:=(xs.drop (HT.sIx xs.length 0 lo)).take (HT.sIx xs.length xs.length hi - HT.sIx xs.length 0 lo)
theorem q8s (xs:List V) (lo hi:Option Int):(cutV xs lo hi).length≤xs.length:=by
 unfold cutV
 rw[List.length_take,List.length_drop]
 omega
end
end L2
namespace L2
open PySem PySem.Spec PyProof.Rows
def ixN (n:Nat) (i:Int):Option Nat:=if 0≤i then (if i < n then some i.toNat else none) else if -(n:Int)≤i then some (i + n).toNat else none
def atI {α:Type} (xs:List α) (i:Int):Option α:=(ixN xs.length i).bind fun j=>xs[j]?
theorem qdl {n:Nat} {i:Int} {j:Nat} (h:ixN n i=some j):seqIndex? i n=some j∧j < n∧ -(n:Int)≤i∧i < n:=by
 unfold ixN at h
 by_cases h0:0≤i
 ·rw[if_pos h0]at h
  by_cases h1:i < n
  ·rw[if_pos h1]at h
   have e:i.toNat=j:=Option.some.inj h
   exact⟨by rw[seqIndex_of h0 h1,e],by omega,by omega,h1⟩
  ·rw[if_neg h1]at h;cases h
 ·rw[if_neg h0]at h
  by_cases h1: -(n:Int)≤i
  ·rw[if_pos h1]at h
   have e:(i + n).toNat=j:=Option.some.inj h
   exact⟨by rw[seqIndex_neg (by omega) h1,e],by omega,h1,by omega⟩
  ·rw[if_neg h1]at h;cases h
theorem q9f {α:Type} {xs:List α} {i:Int} {v:α} (h:atI xs i=some v):∃ j,seqIndex? i xs.length=some j∧xs[j]? = some v∧j < xs.length∧ -(xs.length:Int)≤i∧i < xs.length:=by
 unfold atI at h
 cases e:ixN xs.length i with
 | none=>rw[e]at h;cases h
 | some j =>
  rw[e]at h
  obtain⟨h1,h2,h3,h4⟩:=qdl e
  exact⟨j,h1,h,h2,h3,h4⟩
theorem q08 {α:Type} {xs:List α} {j:Nat} {v:α} (h:xs[j]? = some v):atI xs (j:Int)=some v:=by
 have hj:j < xs.length:=(List.getElem?_eq_some_iff.mp h).1
 have e:ixN xs.length (j:Int)=some j:=by
  unfold ixN
  rw[if_pos (by omega),if_pos (by omega)];simp
 unfold atI;rw[e];exact h
theorem qet {α:Type} (xs:List α) (v:α):atI (xs ++ [v]) (-1)=some v:=by
 have hl:(xs ++ [v]).length=xs.length + 1:=by simp
 have e:ixN (xs ++ [v]).length (-1)=some xs.length:=by
  unfold ixN
  rw[hl,if_neg (by decide),if_pos (by omega)]
  congr 1
  omega
 unfold atI
 rw[e]
 show (xs ++ [v])[xs.length]? = some v
 simp
def qhr (b:Expr):Prop:=∀ o i,subscripted b false o i=operate [o,i] (getItem o i)
def IxR (X:Cx) (r:R2):Prop :=
 ∀ (value slice:Expr) (pins:List (Addr×Obj)) (s:Shared) (σ:St) (H:Hp) (x y:V) (v u:Value) (Q:VK),Inv X pins σ H s→RelV x v→RelV y u→r x y H Q →
  subscripted slice false v u=operate [v,u] (getItem v u)→wpAny (model X.prog X.w) X.A (subscriptTail value slice v u) (EP X pins σ Q) X.xe s
def MtR (X:Cx) (id:String) (r:V→List V→Hp→VK→Prop):Prop :=
 ∀ (pins:List (Addr×Obj)) (s:Shared) (σ:St) (H:Hp) (x:V) (xs:List V) (v:Value) (us:List Value) (Q:VK),Inv X pins σ H s→RelV x v→Vals xs us→r x xs H Q →
  wpAny (model X.prog X.w) X.A (call (.builtin id) (v :: us)) (EP X pins σ Q) X.xe s
section
variable {X:Cx} {a b:Expr} {ta tb:TE} {pos:Pos}
theorem IxR.or {r r':R2} (h:IxR X r) (h':IxR X r'):IxR X (fun x y H Q=>r x y H Q∨r' x y H Q):=by
 intro value slice pins s σ H x y v u Q I rx ry q hs
 rcases q with q | q
 ·exact h value slice pins s σ H x y v u Q I rx ry q hs
 ·exact h' value slice pins s σ H x y v u Q I rx ry q hs
theorem q0k {r:R2} (hr:IxR X r) (ha:PE X a ta) (hb:PE X b tb) (hs:qhr b):PE X (.Subscript a b pos) (tOp r ta tb):=by
 intro pins s σ H Q I h
 exact Subscript_ (binT ha hb I h fun v u s2 x y H2 I2 rx ry q=>hr a b pins s2 σ H2 x y v u Q I2 rx ry q (hs _ _))
def rIxL (K:PySem.W.Frag):R2:=fun x y H Q=>∃ p xs i v,x= .ref p∧y= .int i∧SqL K H p xs∧atI xs i=some v∧Q v H
def rIxT (K:PySem.W.Frag):R2:=fun x y H Q=>∃ p xs i v,x= .ref p∧y= .int i∧SqT K H p xs∧atI xs i=some v∧Q v H
def rIxS:R2:=fun x y H Q=>∃ z i c,x= .str z∧y= .int i∧z.length≤sizeLine∧atI z.cps.toList i=some c∧Q (.str ⟨#[c]⟩) H
theorem q13:IxR X (rIxL X.K):=by
 intro value slice pins s σ H x y v u Q I rx ry h hs
 obtain⟨p,xs,i,z,rfl,rfl,hq,he,q⟩:=h
 cases rx
 obtain⟨t,rfl⟩:=ry
 obtain⟨its,r,pl,hz⟩:=I.list hq
 obtain⟨j,h1,h2,h3,h4,h5⟩:=q9f he
 obtain⟨w,ew,rw'⟩:=r.get h2
 have hl:=r.length
 have hn:=q6r
 have fin:EP X pins σ Q w s:=⟨z,H,I,rw',q⟩
 by_cases h0:0≤i
 ·have hj:i.toNat=j:=by
   rw[seqIndex_of h0 h5]at h1
   exact Option.some.inj h1
  exact item_listR pl.isList h0 (by omega) (by rw[hj];simpa using ew) fin hs
 ·have hj:(i + (its.toArray.size:Int)).toNat=j:=by
   rw[seqIndex_neg (by omega) h4]at h1
   rw[List.size_toArray,← hl]
   exact Option.some.inj h1
  exact subscriptTail_builtinR (x:=w) pl.isList.typeIs slot_list_getitem.lookup
   (wpAny_getItem_list_neg (Q:=fun r s'=>r=w∧EP X pins σ Q r s') pl.isList (by omega) (by rw[List.size_toArray] <;> omega) (by omega) (by rw[hj];simpa using ew) ⟨rfl,fin⟩) hs
theorem q0h:IxR X (rIxT X.K):=by
 intro value slice pins s σ H x y v u Q I rx ry h hs
 obtain⟨p,xs,i,z,rfl,rfl,hq,he,q⟩:=h
 cases rx
 obtain⟨t,rfl⟩:=ry
 obtain⟨its,r,pl,hz⟩:=I.tuple hq
 obtain⟨j,h1,h2,h3,h4,h5⟩:=q9f he
 obtain⟨w,ew,rw'⟩:=r.get h2
 have hl:=r.length
 have hn:=q6r
 have fin:EP X pins σ Q w s:=⟨z,H,I,rw',q⟩
 exact subscriptTail_builtinR (x:=w) pl.typeIs slot_tuple_getitem.lookup
  (getItem_tuple (j:=j) (Q:=fun r s'=>r=w∧EP X pins σ Q r s') pl (by omega) (by omega) (by rw[List.size_toArray,← hl];exact h1) (by simpa using ew) ⟨rfl,fin⟩) hs
theorem qgr:IxR X rIxS:=by
 intro value slice pins s σ H x y v u Q I rx ry h hs
 obtain⟨z,i,c,rfl,rfl,hz,he,q⟩:=h
 obtain⟨t,rfl⟩:=rx
 obtain⟨t',rfl⟩:=ry
 obtain⟨j,h1,h2,h3,h4,h5⟩:=q9f he
 have hl:z.cps.toList.length=z.length:=by simp[Str.length]
 rw[hl]at h1 h4 h5
 have hn:=q6r
 exact tail_any (typeIs_str s z t) slot_str_getitem.lookup (getItem_str (c:=c) (by
  have e1:decide (i < -(2 ^ 63:Int))=false:=decide_eq_false (by omega)
  have e2:decide (i ≥ 2 ^ 63)=false:=decide_eq_false (by omega)
  rw[e1,e2,Bool.or_false]) (by rw[h1];simpa using h2) ⟨.str ⟨#[c]⟩,H,I.tok _,⟨_,rfl⟩,q⟩) hs
theorem qbc (its:List Value) (n j:Nat) (u:Value):Obj.mapSeq (·.setIfInBounds j u) { cls:= .type "list",data:= .seq its.toArray n }={ cls:= .type "list",data:= .seq (its.set j u).toArray n }:=by
 simp[Obj.mapSeq]
theorem Inv.lst {pins:List (Addr×Obj)} {σ:St} {H:Hp} {s:Shared} {p:Addr} {xs:List V} (I:Inv X pins σ H s) (h:H p=some (.lst xs)) :
  ∃ (its:List Value) (n:Nat),Vals xs its∧s.heap.get? p=some { cls:= .type "list",data:= .seq its.toArray n }∧xs.length≤sizeLine:=by
 obtain⟨z,its,n,r,e⟩:=I.hok p _ h
 exact⟨its,n,r,e,z⟩
theorem Inv.lstUpd {pins:List (Addr×Obj)} {σ:St} {H:Hp} {s:Shared} {p:Addr} {xs ys:List V} {its its':List Value} {n n':Nat} {f:Obj→Obj} (I:Inv X pins σ H s) (h:H p=some (.lst xs))
  (ho:s.heap.get? p=some { cls:= .type "list",data:= .seq its.toArray n }) (hf:f { cls:= .type "list",data:= .seq its.toArray n }={ cls:= .type "list",data:= .seq its'.toArray n' }) (r:Vals ys its') (hz:ys.length≤sizeLine) (t:Nat) :
  Inv X pins σ (upd H p (.lst ys)) { s with heap:=s.heap.update p f,toks:=t }:=by
 have e:(s.heap.update p f).get? p=some { cls:= .type "list",data:= .seq its'.toArray n' }:=by
  rw[Heap.get?_update_self f ho (by rw[hf] <;> rfl),hf]
 refine I.write (x:=p) (e:=p) (by rw[h];trivial) (.inl rfl) (fun b u hb q=>(Heap.get?_update_other _ _ (Ne.symm hb)).trans q) ⟨_,e⟩ ?_
 exact⟨hz,its',n',r,e⟩
def qkx:V→V→V→Hp→(Hp→Prop)→Prop:=fun o i v H Q=>∃ p xs k j,o= .ref p∧i= .int k∧H p=some (.lst xs)∧ixN xs.length k=some j∧Q (upd H p (.lst (xs.set j v)))
theorem qfo:PSet X qkx:=by
 intro pins s σ H o i v ov iv u Q I ro ri rv h
 obtain⟨p,xs,k,j,rfl,rfl,hp,hj,q⟩:=h
 cases ro
 obtain⟨t,rfl⟩:=ri
 obtain⟨its,n,r,ho,hz⟩:=I.lst hp
 obtain⟨h1,h2,h3,h4⟩:=qdl hj
 have hl:=r.length
 have hn:=q6r
 have I':Inv X pins σ (upd H p (.lst (xs.set j v))) { s with heap:=s.heap.update p (Obj.mapSeq (·.setIfInBounds j u)) } :=
  I.lstUpd hp ho (qbc its n j u) (r.set rv j) (by rw[List.length_set];exact hz) s.toks
 by_cases h0:0≤k
 ·have hk:k.toNat=j:=by
   rw[seqIndex_of h0 h4]at h1
   exact Option.some.inj h1
  exact PySem.W.ki_setAt ho h0 (by omega) (by rw[List.size_toArray,← hl];exact h4) (by rw[hk];exact⟨_,I',q⟩)
 ·have hk:(k + (its.toArray.size:Int)).toNat=j:=by
   rw[seqIndex_neg (by omega) h3]at h1
   rw[List.size_toArray,← hl]
   exact Option.some.inj h1
  exact PySem.W.ki_setBack ho (by omega) (by rw[List.size_toArray,← hl];exact h3) (by omega) (by rw[hk];exact⟨_,I',q⟩)
theorem q7x (lo hi:Option Int) (n:Nat):(sliceBounds lo hi none n).1=((HT.sIx n 0 lo:Nat):Int)∧(sliceBounds lo hi none n).2.1=((HT.sIx n n hi:Nat):Int)∧(sliceBounds lo hi none n).2.2=1:=by
 refine⟨?_,?_,rfl⟩
 ·cases lo with
  | none=>simp[sliceBounds,HT.sIx]
  | some i =>
   simp only[sliceBounds,HT.sIx,Option.getD_none,show (1:Int) > 0 by decide,if_true]
   by_cases h:i < 0
   ·simp only[h,if_true] <;> omega
   ·simp only[h,if_false] <;> omega
 ·cases hi with
  | none=>simp[sliceBounds,HT.sIx]
  | some i =>
   simp only[sliceBounds,HT.sIx,Option.getD_none,show (1:Int) > 0 by decide,if_true]
   by_cases h:i < 0
   ·simp only[h,if_true] <;> omega
   ·simp only[h,if_false] <;> omega
theorem q7j (its:List Value) (lo hi:Option Int):slicePick its.toArray lo hi none=((its.drop (HT.sIx its.length 0 lo)).take (HT.sIx its.length its.length hi - HT.sIx its.length 0 lo)).toArray:=by
 obtain⟨h1,h2,h3⟩:=q7x lo hi its.toArray.size
 unfold slicePick
 rw[h1,h2,h3]
 simp only[sliceRange_one,pick_run,List.size_toArray] <;> rfl
def rSlL (K:PySem.W.Frag):V→Option Int→Option Int→Hp→VK→Prop:=fun x lo hi H Q=>∃ a xs,x= .ref a∧SqL K H a xs∧∀ p,H p=none→Q (.ref p) (upd H p (.lst (cutV xs lo hi)))
theorem qi6:SlR X (rSlL X.K):=by
 intro pins s σ H x v vl vu lo hi sl Q I rx hs pl pu h
 obtain⟨a,xs,rfl,hx,q⟩:=h
 cases rx
 obtain⟨its,r,ht,hz⟩:=I.list hx
 have hlen:=r.length
 refine⟨"list",_,slot_list_getitem.lookup,ht.isList.typeIs,?_⟩
 refine wpAny_getItem_list_slice ht.isList hs pl pu .none (by simp) ?_ (by rw[List.size_toArray] <;> omega)
 rw[q7j,← hlen]
 refine⟨.ref s.heap.objs.size,_,I.laid (t':=s.toks) (o:= .lst (cutV xs lo hi)) (fun b ob q=>Heap.get?_push_of_some _ q) (Nat.le_refl _) ?_,rfl,q _ (I.hok.fresh (Nat.le_refl _))⟩
 exact⟨Nat.le_trans (q8s xs lo hi) hz,_,0,(r.drop (HT.sIx xs.length 0 lo)).take (HT.sIx xs.length xs.length hi - HT.sIx xs.length 0 lo),Heap.get?_push_size _ rfl⟩
def q7k:V→Bool
 | .non=>true
 | .bl _=>true
 | .int _=>true
 | .str _=>true
 | _=>false
def eqV:V→V→Bool
 | .non,.non=>true
 | .bl a,.bl b=>a == b
 | .bl a,.int b=>(if a then 1 else 0) == b
 | .int a,.bl b=>a == (if b then 1 else 0)
 | .int a,.int b=>a == b
 | .str a,.str b=>a == b
 | _,_=>false
theorem qgi {A:Around} {s:Shared} {y x:V} {u v:Value} (ry:RelV y u) (rx:RelV x v) (fy:q7k y=true) (fx:q7k x=true):SeqAt.EqAt A s u v (eqV y x):=by
 cases y with
 | non =>
  cases ry
  cases x with
  | non=>cases rx;exact SeqAt.EqAt.same _
  | bl b=>cases rx;exact SeqAt.EqAt.none_bool b
  | int b=>obtain⟨t,rfl⟩:=rx;exact SeqAt.EqAt.none_int b t
  | str b=>obtain⟨t,rfl⟩:=rx;exact SeqAt.EqAt.none_str b t
  | _=>exact absurd (show false=true from fx) Bool.false_ne_true
 | bl a =>
  cases ry
  cases x with
  | non=>cases rx;exact SeqAt.EqAt.bool_none a
  | bl b=>cases rx;exact SeqAt.EqAt.bool_bool a b
  | int b=>obtain⟨t,rfl⟩:=rx;exact SeqAt.EqAt.bool_int a b t
  | str b=>obtain⟨t,rfl⟩:=rx;exact SeqAt.EqAt.bool_str a b t
  | _=>exact absurd (show false=true from fx) Bool.false_ne_true
 | int a =>
  obtain⟨t',rfl⟩:=ry
  cases x with
  | non=>cases rx;exact SeqAt.EqAt.int_none a t'
  | bl b=>cases rx;exact SeqAt.EqAt.int_bool a t' b
  | int b=>obtain⟨t,rfl⟩:=rx;exact SeqAt.EqAt.int_int a t' b t
  | str b=>obtain⟨t,rfl⟩:=rx;exact SeqAt.EqAt.int_str a t' b t
  | _=>exact absurd (show false=true from fx) Bool.false_ne_true
 | str a =>
  obtain⟨t',rfl⟩:=ry
  cases x with
  | non=>cases rx;exact SeqAt.EqAt.str_none a t'
  | bl b=>cases rx;exact SeqAt.EqAt.str_bool a t' b
  | int b=>obtain⟨t,rfl⟩:=rx;exact SeqAt.EqAt.str_int a t' b t
  | str b=>obtain⟨t,rfl⟩:=rx;exact SeqAt.EqAt.str_str a t' b t
  | _=>exact absurd (show false=true from fx) Bool.false_ne_true
 | _=>exact absurd (show false=true from fy) Bool.false_ne_true
theorem q0m:q44 X (.builtin "len") (fun xs H Q=>∃ p ys,xs=[.ref p]∧(SqL X.K H p ys∨SqT X.K H p ys)∧Q (.int ys.length) H):=by
 intro pins s σ H xs us Q I r h
 obtain⟨p,ys,rfl,hq,q⟩:=h
 obtain⟨u,rfl,rx⟩:=q5z r
 cases rx
 have hn:=q6r
 rcases hq with hq | hq
 ·obtain⟨its,r',pl,hz⟩:=I.list hq
  have hlen:=r'.length
  exact Calls.call_len_list pl.isList (by simp only[List.size_toArray] <;> omega) ⟨.int ys.length,H,I.tok _,⟨s.toks + 1,by rw[List.size_toArray,hlen]⟩,q⟩
 ·obtain⟨its,r',pl,hz⟩:=I.tuple hq
  have hlen:=r'.length
  exact len_tuple pl (by simp only[List.size_toArray] <;> omega) ⟨.int ys.length,H,I.tok _,⟨s.toks + 1,by rw[List.size_toArray,hlen]⟩,q⟩
theorem q50:q44 X (.type "list") (fun xs H Q=>∃ p ys,xs=[.ref p]∧(SqL X.K H p ys∨SqT X.K H p ys)∧∀ l,H l=none→Q (.ref l) (upd H l (.lst ys))):=by
 intro pins s σ H xs us Q I r h
 obtain⟨p,ys,rfl,hq,q⟩:=h
 obtain⟨u,rfl,rx⟩:=q5z r
 cases rx
 have fin:∀ (its:List Value),Vals ys its→ys.length≤sizeLine→∀ (h':Heap) (c':Nat),(∀ b o',s.heap.get? b=some o'→h'.get? b=some o') →
   h'.get? s.heap.objs.size=some { cls:= .type "list",dict:=none,data:= .seq its.toArray c',slots:= #[] }→EP X pins σ Q (.ref s.heap.objs.size) { s with heap:=h' }:=fun its r' hz h' c' kp e =>
  ⟨.ref s.heap.objs.size,_,I.laid (t':=s.toks) kp (Nat.le_refl _) (show q1n X.prog X.w _ h' _ (.lst ys) from ⟨hz,its,c',r',e⟩),rfl,q _ (I.hok.fresh (Nat.le_refl _))⟩
 rcases hq with hq | hq
 ·obtain⟨its,r',pl,hz⟩:=I.list hq
  have hlen:=r'.length
  obtain⟨o,ho,hc,n,hd⟩:=pl.isList
  exact call_list_seq p (.inl rfl) ho hc hd (fun h' c' kp e=>fin its r' hz h' c' kp e) (by simp only[List.size_toArray] <;> omega)
 ·obtain⟨its,r',pl,hz⟩:=I.tuple hq
  have hlen:=r'.length
  obtain⟨o,ho,hc,n,hd⟩:=pl
  exact call_list_seq p (.inr rfl) ho hc hd (fun h' c' kp e=>fin its r' hz h' c' kp e) (by simp only[List.size_toArray] <;> omega)
def tyV (K:PySem.W.Frag) (T:String) (x:V) (H:Hp):Prop:=match x with
 | .str _=>T= "str"
 | .int _=>T= "int"
 | .ref p=>(T= "list" ∧ ∃ xs,SqL K H p xs)∨(T= "tuple" ∧ ∃ o,K.lookup p=some o∧o.cls= .type "tuple" ∧ o.dict=none) ∨
   (T= "dict" ∧ ((∃ kvs,H p=some (.dK kvs))∨∃ kvs,H p=some (.dT kvs)))∨(T= "set" ∧ ∃ S n,H p=some (.set S n))
 | _=>False
theorem qhg {pins:List (Addr×Obj)} {σ:St} {H:Hp} {s:Shared} {T:String} {x:V} {v:Value} (I:Inv X pins σ H s) (r:RelV x v) (ty:tyV X.K T x H) :
  s.TypeIs v T∧∀ a,v= .ref a→∃ ob,s.heap.get? a=some ob∧ob.dict=none:=by
 cases x with
 | str z =>
  obtain⟨t,rfl⟩:=r
  cases (show T= "str" from ty)
  exact⟨typeIs_str s z t,fun _ e=>nomatch e⟩
 | int i =>
  obtain⟨t,rfl⟩:=r
  cases (show T= "int" from ty)
  exact⟨typeIs_int s i t,fun _ e=>nomatch e⟩
 | ref p =>
  cases r
  rcases ty with ⟨rfl,xs,hq⟩ | ⟨rfl,o,hk,hc,hd⟩ | ⟨rfl,hk⟩ | ⟨rfl,S,n,hk⟩
  ·obtain⟨its,_,pl,_⟩:=I.list hq
   refine⟨pl.isList.typeIs,fun a e=> ?_⟩
   cases e
   obtain⟨o,n,e,c,hd,_⟩:=pl
   exact⟨o,e,hd⟩
  ·refine⟨⟨o,I.kIn p o hk,hc⟩,fun a e=> ?_⟩
   cases e
   exact⟨o,I.kIn _ o hk,hd⟩
  ·have z:∃ o,s.heap.get? p=some o∧o.ExactDict:=by
    rcases hk with ⟨kvs,hk⟩ | ⟨kvs,hk⟩
    ·obtain⟨_,_,_,_,o,_,_,e,ex,_⟩:=I.hok p _ hk
     exact⟨o,e,ex⟩
    ·obtain⟨_,_,_,_,o,_,_,e,ex,_⟩:=I.hok p _ hk
     exact⟨o,e,ex⟩
   obtain⟨o,e,ex⟩:=z
   refine⟨⟨o,e,ex.1⟩,fun a e2=> ?_⟩
   cases e2
   exact⟨o,e,ex.2.1⟩
  ·obtain⟨o,_,_,_,e,ex,_⟩:=I.hok p _ hk
   refine⟨⟨o,e,ex.1⟩,fun a e2=> ?_⟩
   cases e2
   exact⟨o,e,ex.2.1⟩
 | _=>exact False.elim ty
def tBM0 (K:PySem.W.Frag) (T:String) (r:V→List V→Hp→VK→Prop) (to:TE):TE:=fun σ H Q=>to σ H fun x H1=>tyV K T x H1∧r x [] H1 Q
def tBM (K:PySem.W.Frag) (T:String) (r:V→List V→Hp→VK→Prop) (to:TE) (t:TA):TE:=fun σ H Q=>to σ H fun x H1=>tyV K T x H1∧t σ H1 fun xs H2=>r x xs H2 Q
variable {o e:Expr} {es:List Expr} {to:TE} {t:TA} {name:Str} {apos cpos:Pos} {T id:String} {r:V→List V→Hp→VK→Prop}
theorem qbx (pa:PlainAttrs T) (slot:Slot T name id) (hty:typeOf (.builtin id)=pure (.type "method_descriptor")) (hm:MtR X id r) (ho:PE X o to)
  (hbase:attributeBase o name X.env (eval o X.env)=eval o X.env:=by rfl) (hline:(apos.endLine == cpos.line)=true:=by rfl):PE X (.Call (.Attribute o name apos) [] [] cpos) (tBM0 X.K T r to):=by
 intro pins s σ H Q I h
 refine wpAny_Call_method0_late hbase hline (thn (ho pins s σ H _ I h) fun v s1 ⟨x,H1,I1,r1,ty,q1⟩=> ?_)
 obtain⟨h1,h2⟩:=qhg I1 r1 ty
 exact⟨T,id,pa,slot,hty,h1,h2,Calls.callWith_builtin rfl (PySem.evalArgs_none (hm pins s1 σ H1 x [] v [] Q I1 r1 .nil q1))⟩
theorem q52 (pa:PlainAttrs T) (slot:Slot T name id) (hty:typeOf (.builtin id)=pure (.type "method_descriptor")) (hm:MtR X id r) (ho:PE X o to) (ha:PA X (e :: es) t)
  (hbase:attributeBase o name X.env (eval o X.env)=eval o X.env:=by rfl)
  (hfew:((backTo cpos (starEach (e :: es) X.env)).all (fun x=> !x.1) && (backToKw cpos (keywordEach [] X.env)).all (fun x=>x.1.isSome)
   && decide ((e :: es).length + ([]:List Keyword).length + (if ([]:List Keyword).isEmpty then 0 else 1) < 30))=true:=by rfl)
  (hline:(apos.endLine == cpos.line)=true:=by rfl) (hs:starEach (e :: es) X.env=(false,eval e X.env) :: starEach es X.env:=by rfl) (hplain:(backTo cpos (starEach es X.env)).any (·.1)=false:=by rfl) :
  PE X (.Call (.Attribute o name apos) (e :: es) [] cpos) (tBM X.K T r to t):=by
 intro pins s σ H Q I h
 refine wpAny_Call_method_late hbase hfew hline rfl (thn (ho pins s σ H _ I h) fun v s1 ⟨x,H1,I1,r1,ty,q1⟩=> ?_)
 obtain⟨h1,h2⟩:=qhg I1 r1 ty
 refine⟨T,id,pa,slot,hty,h1,h2,?_⟩
 have hA:=ha cpos pins s1 σ H1 _ I1 q1
 rw[hs]at hA ⊢
 refine Calls.callWith_builtin (by show (false || (backTo cpos (starEach es X.env)).any (·.1))=false;rw[hplain] <;> rfl) (Calls.evalArgs_plain ?_)
 exact thn hA fun us s2 ⟨vs,H2,I2,r2,q2⟩=>hm pins s2 σ H2 x vs v us Q I2 r1 r2 q2
/- xs.append(e),list.index on a module's tuple .. are MtR facts of 06m -/
end
end L2
namespace L2
open PySem PySem.Spec PyProof.Rows
def MtM (X:Cx) (id:String) (r:V→List V→Hp→VK→Prop):Prop :=
 ∀ (pins:List (Addr×Obj)) (s:Shared) (σ:St) (H:Hp) (x:V) (xs:List V) (v:Value) (us:List Value) (Q:VK),Inv X pins σ H s→RelV x v→Vals xs us→r x xs H Q →
  wpAny (model X.prog X.w) X.A (call (.builtin id) (v :: us)) (EP X pins σ Q) X.xe s
theorem Vals.one:∀ {x:V} {us:List Value},Vals [x] us→∃ u,us=[u]∧RelV x u
 | _,_,.cons r .nil=>⟨_,rfl,r⟩
theorem Vals.zero:∀ {us:List Value},Vals [] us→us=[]
 | _,.nil=>rfl
section
variable {X:Cx} {pins:List (Addr×Obj)} {σ:St} {H:Hp} {s:Shared} {l b:Addr} {xs ys zs:List V}
theorem Inv.lset {its its':List Value} {n:Nat} {f:Array Value→Array Value} {t':Nat} (I:Inv X pins σ H s) (hH:H l=some (.lst xs))
  (e:s.heap.get? l=some { cls:= .type "list",data:= .seq its.toArray n }) (hf:f its.toArray=its'.toArray) (hv:Vals ys its') (hz:ys.length≤sizeLine) :
  Inv X pins σ (upd H l (.lst ys)) { s with heap:=s.heap.update l (Obj.mapSeq f),toks:=t' }:=by
 have q:=PySem.IsL.update e f
 rw[hf]at q
 refine I.write (x:=l) (e:=l) (by rw[hH];exact trivial) (.inl rfl) (fun b' u hb hu=>(Heap.get?_update_other s.heap (Obj.mapSeq f) (Ne.symm hb)).trans hu) ⟨_,q⟩ ?_
 exact⟨hz,its',_,hv,q⟩
theorem Inv.lnew {its:List Value} {t':Nat} (I:Inv X pins σ H s) (hv:Vals ys its) (hz:ys.length≤sizeLine) :
  Inv X pins σ (upd H s.heap.objs.size (.lst ys)) { s with heap:=s.heap.push { cls:= .type "list",data:= .seq its.toArray },toks:=t' } :=
 I.laid (fun _ _ q=>Heap.get?_push_of_some _ q) (Nat.le_refl _) ⟨hz,its,0,hv,Heap.get?_push_size _ rfl⟩
theorem Inv.fresh (I:Inv X pins σ H s):H s.heap.objs.size=none:=I.hok.fresh (Nat.le_refl _)
theorem Inv.lstM (I:Inv X pins σ H s) (hH:H l=some (.lst xs)):xs.length≤sizeLine∧∃ (its:List Value) (n:Nat),Vals xs its∧xs.length=its.length∧s.heap.get? l=some { cls:= .type "list",data:= .seq its.toArray n }:=by
 obtain⟨z,its,n,r,e⟩:=I.hok l _ hH
 exact⟨z,its,n,r,r.length,e⟩
end
section
variable {X:Cx}
def qhx:V→List V→Hp→VK→Prop:=fun x vs H Q=>∃ l xs y,x= .ref l∧vs=[y]∧H l=some (.lst xs)∧xs.length < sizeLine∧Q .non (upd H l (.lst (xs ++ [y])))
theorem q1o:MtM X "list.append" qhx:=by
 intro pins s σ H x vs v us Q I rx rv h
 obtain⟨l,xs,y,rfl,rfl,hH,hz,q⟩:=h
 cases rx
 obtain⟨u,rfl,ru⟩:=rv.one
 obtain⟨z,its,n,r,hl,e⟩:=I.lstM hH
 refine call_meets F.slot_list_append ⟨_,e,rfl⟩ F.entry_list_append (F.args_list_append_2 _ _) (PySem.list_append l its.toArray n u (by rw[List.size_toArray];omega)) ⟨e,?_⟩
 refine⟨.non,_,I.lset (its':=its ++ [u]) hH e (by simp) (r.append (.cons ru .nil)) ?_,rfl,q⟩
 rw[List.length_append,List.length_singleton]
 omega
end
section
variable {prog:Program} {w:World} {A:Around} {E:Value→Shared→Prop} {s:Shared}
end
section
variable {X:Cx}
end
end L2
namespace L2
open PySem PySem.Spec PyProof.Rows
section
variable {κ:Type} [DecidableEq κ]
def valV (kvs:List (κ×V)) (k:κ):Option V:=(kvs.find? fun kv=>decide (kv.1=k)).map (·.2)
def putK (kvs:List (κ×V)) (k:κ) (v:V):List (κ×V) :=
 if (kvs.any fun kv=>decide (kv.1=k))=true then kvs.map (fun kv=>if kv.1=k then (kv.1,v) else kv) else kvs ++ [(k,v)]
theorem q2d {p:κ×V} {r:List (κ×V)} {k:κ} (e:p.1=k):valV (p :: r) k=some p.2:=by simp[valV,List.find?_cons,e]
theorem q29 {p:κ×V} {r:List (κ×V)} {k:κ} (e:¬ p.1=k):valV (p :: r) k=valV r k:=by simp[valV,List.find?_cons,e]
theorem q3r (k:κ):∀ kvs:List (κ×V),(kvs.any fun kv=>decide (kv.1=k))=(valV kvs k).isSome
 | []=>rfl
 | p :: r=>by
  rw[List.any_cons]
  by_cases e:p.1=k
  ·simp only[q2d e,decide_eq_true e,Bool.true_or,Option.isSome_some]
  ·rw[q29 e,decide_eq_false e,Bool.false_or];exact q3r k r
theorem qae (k j:κ) (y:V):∀ kvs:List (κ×V),valV (kvs.map fun kv=>if kv.1=k then (kv.1,y) else kv) j=(valV kvs j).map fun x=>if j=k then y else x
 | []=>rfl
 | p :: r=>by
  have ih:=qae k j y r
  rw[List.map_cons]
  by_cases h:p.1=k
  ·rw[if_pos h]
   by_cases e:p.1=j
   ·rw[q2d (p:=(p.1,y)) e,q2d e,Option.map_some,if_pos (e.symm.trans h)]
   ·rw[q29 (p:=(p.1,y)) e,q29 e,ih]
  ·rw[if_neg h]
   by_cases e:p.1=j
   ·rw[q2d (p:=p) e,q2d e,Option.map_some,if_neg (fun z=>h (e.trans z))]
   ·rw[q29 (p:=p) e,q29 e,ih]
theorem q7q (k j:κ) (y:V):∀ kvs:List (κ×V),valV kvs k=none→valV (kvs ++ [(k,y)]) j=if j=k then some y else valV kvs j
 | [],_=>by
  by_cases e:k=j
  ·rw[if_pos e.symm];exact q2d (p:=(k,y)) e
  ·rw[if_neg (fun z=>e z.symm)];exact q29 (p:=(k,y)) e
 | p :: r,hn=>by
  rw[List.cons_append]
  have hk:¬ p.1=k:=fun z=>by rw[q2d z]at hn;cases hn
  rw[q29 hk]at hn
  have ih:=q7q k j y r hn
  by_cases e:p.1=j
  ·rw[q2d e,q2d e,if_neg (fun z=>hk (e.trans z))]
  ·rw[q29 e,q29 e,ih]
theorem q1w (kvs:List (κ×V)) (k j:κ) (y:V):valV (putK kvs k y) j=if j=k then some y else valV kvs j:=by
 unfold putK
 by_cases a:(kvs.any fun kv=>decide (kv.1=k))=true
 ·rw[if_pos a,qae]
  rw[q3r]at a
  by_cases e:j=k
  ·obtain⟨x,hx⟩:=Option.isSome_iff_exists.mp a
   rw[if_pos e,e,hx,Option.map_some,if_pos rfl]
  ·rw[if_neg e]
   cases valV kvs j with
   | none=>rfl
   | some x=>rw[Option.map_some,if_neg e]
 ·rw[if_neg a]
  refine q7q k j y kvs ?_
  rw[q3r]at a
  cases q:valV kvs k with
  | none=>rfl
  | some x=>rw[q]at a;exact(a rfl).elim
theorem q0o (kvs:List (κ×V)) (k:κ) (v:V):(putK kvs k v).length≤kvs.length + 1:=by
 unfold putK
 split
 ·rw[List.length_map];omega
 ·rw[List.length_append,List.length_cons,List.length_nil];omega
theorem qa2 {kvs:List (κ×V)} {k:κ} (v:V) (h:valV kvs k=none):putK kvs k v=kvs ++ [(k,v)]:=by
 unfold putK
 rw[q3r,h]
 exact if_neg (by decide)
theorem RelO.isSome_eq {o:Option V} {u:Option Value} (r:RelO o u):o.isSome=u.isSome:=by
 cases o with
 | none=>cases u with
  | none=>rfl
  | some _=>exact(show False from r).elim
 | some _=>cases u with
  | none=>exact(show False from r).elim
  | some _=>rfl
theorem RelO.getD {o:Option V} {u:Option Value} {d:V} {d':Value} (r:RelO o u) (rd:RelV d d'):RelV (o.getD d) (u.getD d'):=by
 cases o with
 | none=>cases u with
  | none=>exact rd
  | some _=>exact(show False from r).elim
 | some _=>cases u with
  | none=>exact(show False from r).elim
  | some _=>exact r
theorem KV.val {kvs:List (κ×V)} {vs:List (κ×Value)} (r:KV kvs vs) (k:κ):RelO (valV kvs k) (valueAt vs k):=by
 unfold KV at r
 induction r with
 | nil=>exact True.intro
 | @cons p q ps qs h t ih =>
  obtain⟨h1,h2⟩:=h
  by_cases e:p.1=k
  ·have e':q.1=k:=h1.symm.trans e
   have b:valueAt (q :: qs) k=some q.2:=by simp[valueAt,List.find?_cons,e']
   rw[q2d e,b];exact h2
  ·have e':¬ q.1=k:=fun z=>e (h1.trans z)
   have b:valueAt (q :: qs) k=valueAt qs k:=by simp[valueAt,List.find?_cons,e']
   rw[q29 e,b];exact ih
theorem KV.any {kvs:List (κ×V)} {vs:List (κ×Value)} (r:KV kvs vs) (k:κ):(kvs.any fun kv=>decide (kv.1=k))=vs.any fun kv=>decide (kv.1=k):=by
 unfold KV at r
 induction r with
 | nil=>rfl
 | cons h t ih=>rw[List.any_cons,List.any_cons,ih,h.1]
theorem KV.repl {kvs:List (κ×V)} {vs:List (κ×Value)} (r:KV kvs vs) (k:κ) {y:V} {u:Value} (ry:RelV y u) :
  KV (kvs.map fun kv=>if kv.1=k then (kv.1,y) else kv) (vs.map fun kv=>if kv.1=k then (kv.1,u) else kv):=by
 unfold KV at r ⊢
 induction r with
 | nil=>exact .nil
 | @cons p q ps qs h t ih =>
  rw[List.map_cons,List.map_cons]
  refine .cons ?_ ih
  obtain⟨h1,h2⟩:=h
  by_cases e:p.1=k
  ·rw[if_pos e,if_pos (h1.symm.trans e)];exact⟨h1,ry⟩
  ·rw[if_neg e,if_neg (fun z=>e (h1.trans z))];exact⟨h1,h2⟩
theorem KV.put {kvs:List (κ×V)} {vs:List (κ×Value)} (r:KV kvs vs) (k:κ) {y:V} {u:Value} (ry:RelV y u):KV (putK kvs k y) (stored vs k u):=by
 unfold putK stored
 rw[r.any k]
 by_cases e:(vs.any fun kv=>decide (kv.1=k))=true
 ·rw[if_pos e,if_pos e];exact r.repl k ry
 ·rw[if_neg e,if_neg e];exact Paired.snoc r ⟨rfl,ry⟩
theorem KV.length {kvs:List (κ×V)} {vs:List (κ×Value)} (r:KV kvs vs):kvs.length=vs.length:=Paired.length r
end
theorem q7s {P:Program} {w:World} {k:Key} {u:Value} (r:RelV (kV k) u):(q1b P w).is k u=true:=by
 cases k with
 | inl i=>obtain⟨t,e⟩:=(show ∃ t,u=Value.int i t from r);subst e;exact q9g P w i t
 | inr x=>obtain⟨t,e⟩:=(show ∃ t,u=Value.str x t from r);subst e;exact q8v P w x t
theorem q86 {P:Program} {w:World}:∀ {ks:List Key} {us:List Value},Vals (ks.map kV) us→ItemsAre (q1b P w) ks us
 | [],_,r=>by rw[List.map_nil]at r;cases r;exact .nil
 | k :: ks,_,r=>by
  rw[List.map_cons]at r
  cases r with
  | cons h t=>exact .cons (q7s h) (q86 t)
abbrev KT (H:Hp):List (List Key×V)→List (List Key×Addr×Value)→Prop:=Paired fun p q=>p.1=q.1∧H q.2.1=some (.tup (p.1.map kV))∧RelV p.2 q.2.2
theorem KT.val {H:Hp} {kvs:List (List Key×V)} {xs:List (List Key×Addr×Value)} (r:KT H kvs xs) (k:List Key):RelO (valV kvs k) ((atKey xs k).map (·.2)):=by
 induction r with
 | nil=>exact True.intro
 | @cons p q ps qs h t ih =>
  obtain⟨h1,_,h2⟩:=h
  by_cases e:p.1=k
  ·have e':q.1=k:=h1.symm.trans e
   have b:atKey (q :: qs) k=some q.2:=by simp[atKey,List.find?_cons,e']
   rw[q2d e,b];exact h2
  ·have e':¬ q.1=k:=fun z=>e (h1.trans z)
   have b:atKey (q :: qs) k=atKey qs k:=by simp[atKey,List.find?_cons,e']
   rw[q29 e,b];exact ih
theorem KT.repl {H:Hp} {kvs:List (List Key×V)} {xs:List (List Key×Addr×Value)} (r:KT H kvs xs) (k:List Key) {y:V} {u:Value} (ry:RelV y u) :
  KT H (kvs.map fun kv=>if kv.1=k then (kv.1,y) else kv) (xs.map (putAt k u)):=by
 induction r with
 | nil=>exact .nil
 | @cons p q ps qs h t ih =>
  rw[List.map_cons,List.map_cons]
  refine .cons ?_ ih
  obtain⟨h1,h2,h3⟩:=h
  unfold putAt
  by_cases e:p.1=k
  ·rw[if_pos e,if_pos (h1.symm.trans e)];exact⟨h1,h2,ry⟩
  ·rw[if_neg e,if_neg (fun z=>e (h1.trans z))];exact⟨h1,h2,h3⟩
theorem KT.put {H:Hp} {kvs:List (List Key×V)} {xs:List (List Key×Addr×Value)} (r:KT H kvs xs) (k:List Key) {b:Addr} {y:V} {u:Value} (hb:H b=some (.tup (k.map kV))) (ry:RelV y u) :
  KT H (putK kvs k y) (storedH xs k b u):=by
 have e:(kvs.any fun kv=>decide (kv.1=k))=(atKey xs k).isSome:=by
  rw[q3r,(r.val k).isSome_eq,Option.isSome_map]
 unfold putK storedH
 rw[e]
 by_cases q:(atKey xs k).isSome=true
 ·rw[if_pos q,if_pos q];exact r.repl k ry
 ·rw[if_neg q,if_neg q];exact Paired.snoc r ⟨rfl,hb,ry⟩
theorem KT.keeps {H H':Hp} {kvs:List (List Key×V)} {xs:List (List Key×Addr×Value)} (r:KT H kvs xs) (ht:∀ b ys,H b=some (.tup ys)→H' b=some (.tup ys)):KT H' kvs xs :=
 Paired.mapP r fun _ _ z=>⟨z.1,ht _ _ z.2.1,z.2.2⟩
section
variable {P:Program} {w:World} {H:Hp} {h:Heap} {a:Addr}
theorem ql6 {u:HO} (ok:HOk P w H h) (e:Rd H a u):q1n P w H h a u:=e.ok ok
theorem q78 {kvs:List (Key×V)} (ok:HOk P w H h) (e:Rd H a (.dK kvs)):kvs.length≤sizeLine∧(a == sysModules)=false∧∃ vs,KV kvs vs∧h.DictOf (q1b P w) a vs :=
 show q1n P w H h a (.dK kvs) from ql6 ok e
theorem qez {kvs:List (Key×V)} (ok:HOk P w H h) (e:H a=some (.dK kvs)):kvs.length≤sizeLine∧(a == sysModules)=false∧∃ vs,KV kvs vs∧h.DictOf (q1b P w) a vs:=q78 ok (.inl e)
theorem q5j {ks:List Key} (ok:HOk P w H h) (e:H a=some (.tup (ks.map kV))):(tupleKind (q1b P w)).is h ks a:=by
 obtain⟨_,its,r,o,h1,h2,n,h3⟩:=(show q1n P w H h a (.tup (ks.map kV)) from ok a _ e)
 exact⟨o,its.toArray,n,h1,h2,h3,by simpa using q86 r⟩
theorem q8m {kvs:List (List Key×V)} (ok:HOk P w H h) (e:Rd H a (.dT kvs)):kvs.length≤sizeLine∧(a == sysModules)=false ∧
  ∃ xs,KT H kvs xs∧h.DictOfH (tupleKind (q1b P w)) a xs:=by
 obtain⟨z,y,xs,r,o,es,ep,h1,h2,h3,h4,h5⟩:=(show q1n P w H h a (.dT kvs) from ql6 ok e)
 refine⟨z,y,xs,r,o,es,ep,h1,h2,h3,h4,fun x hx=> ?_,h5⟩
 have all:∀ {l:List (List Key×V)} {m:List (List Key×Addr×Value)},KT H l m→∀ x ∈ m,(tupleKind (q1b P w)).is h x.1 x.2.1:=by
  intro l m q
  induction q with
  | nil=>intro x hx;exact nomatch hx
  | @cons p q ps qs hq t ih =>
   intro x hx
   rcases List.mem_cons.mp hx with e | hx
   ·subst e
    exact q5j ok (by rw[← hq.1];exact hq.2.1)
   ·exact ih x hx
 exact all r x hx
theorem qli {kvs:List (List Key×V)} (ok:HOk P w H h) (e:H a=some (.dT kvs)):kvs.length≤sizeLine∧(a == sysModules)=false ∧
  ∃ xs,KT H kvs xs∧h.DictOfH (tupleKind (q1b P w)) a xs:=q8m ok (.inl e)
end
def DGet (H:Hp) (a:Addr) (y:V) (r:Option V):Prop :=
 (∃ kvs k,Rd H a (.dK kvs)∧y=kV k∧r=valV kvs k)∨∃ kvs k b,Rd H a (.dT kvs)∧y= .ref b∧H b=some (.tup (k.map kV))∧r=valV kvs k
def DPut (H:Hp) (a:Addr) (y v:V) (H':Hp):Prop :=
 (∃ kvs k,H a=some (.dK kvs)∧y=kV k∧kvs.length < sizeLine∧H'=upd H a (.dK (putK kvs k v))) ∨
 ∃ kvs k b,H a=some (.dT kvs)∧y= .ref b∧H b=some (.tup (k.map kV))∧kvs.length < sizeLine∧H'=upd H a (.dT (putK kvs k v))
theorem DGet.k {H:Hp} {a:Addr} {kvs:List (Key×V)} {k:Key} (e:H a=some (.dK kvs)):DGet H a (kV k) (valV kvs k):= .inl ⟨kvs,k,.inl e,rfl,rfl⟩
theorem DGet.t {H:Hp} {a b:Addr} {kvs:List (List Key×V)} {k:List Key} (e:H a=some (.dT kvs)) (eb:H b=some (.tup (k.map kV))):DGet H a (.ref b) (valV kvs k):= .inr ⟨kvs,k,b,.inl e,rfl,eb,rfl⟩
theorem DPut.k {H:Hp} {a:Addr} {kvs:List (Key×V)} {k:Key} {v:V} (e:H a=some (.dK kvs)) (hl:kvs.length < sizeLine):DPut H a (kV k) v (upd H a (.dK (putK kvs k v))):= .inl ⟨kvs,k,e,rfl,hl,rfl⟩
theorem DPut.t {H:Hp} {a b:Addr} {kvs:List (List Key×V)} {k:List Key} {v:V} (e:H a=some (.dT kvs)) (eb:H b=some (.tup (k.map kV))) (hl:kvs.length < sizeLine) :
  DPut H a (.ref b) v (upd H a (.dT (putK kvs k v))):= .inr ⟨kvs,k,b,e,rfl,eb,hl,rfl⟩
section
variable {X:Cx} {pins:List (Addr×Obj)} {σ:St} {H:Hp} {s:Shared} {a:Addr} {y v:V} {u r:Value} {o:Option V} {A:Around} {E:Value→Shared→Prop}
theorem Inv.big (I:Inv X pins σ H s):sysModules < s.heap.objs.size:=by
 have h:mainGlobals < s.heap.objs.size:=(I.mod.glob.keeps I.bk).lt
 exact Nat.lt_trans (by decide) h
theorem qei {Q:Value→Shared→Prop} (hu:A.units + 1 < cLine) (I:Inv X pins σ H s) (g:DGet H a y (some v)) (ry:RelV y u) (h:∀ w' s',Inv X pins σ H s'→RelV v w'→Q w' s') :
  wpAny (model X.prog X.w) A (getItem (.ref a) u) Q E s:=by
 rcases g with ⟨kvs,k,e,ey,l⟩ | ⟨kvs,k,b,e,ey,eb,l⟩
 ·subst ey
  obtain⟨z,hd,vs,rel,dd⟩:=q78 I.hok e
  obtain⟨w',hw,rw'⟩:=RelO.some_of (v:=v) (o:=valueAt vs k) (by rw[l];exact rel.val k)
  exact wpAny_getItem_of (q7s ry) dd.mapOf hw (h w' _ (I.tok _) rw')
 ·subst ey
  cases (show u=Value.ref b from ry)
  obtain⟨z,hd,xs,rel,dd⟩:=q8m I.hok e
  obtain⟨w',hw,rw'⟩:=RelO.some_of (v:=v) (o:=(atKey xs k).map (·.2)) (by rw[l];exact rel.val k)
  obtain⟨p,hp,hp2⟩:=Option.map_eq_some_iff.mp hw
  refine wpAny_getItem_heap (tupleKind_room_in1 hu) (q5j I.hok eb) dd hp ?_
  rw[hp2]
  exact h w' _ (I.tok _) rw'
theorem d_in {Q:Value→Shared→Prop} (hu:A.units + 1 < cLine) (I:Inv X pins σ H s) (g:DGet H a y o) (ry:RelV y u) (h:∀ s',Inv X pins σ H s'→Q (.bool o.isSome) s') :
  wpAny (model X.prog X.w) A (compareOp .In u (.ref a)) Q E s:=by
 rcases g with ⟨kvs,k,e,ey,l⟩ | ⟨kvs,k,b,e,ey,eb,l⟩
 ·subst ey
  obtain⟨z,hd,vs,rel,dd⟩:=q78 I.hok e
  refine wpAny_in_of (q7s ry) hd dd.mapOf ?_
  rw[← (rel.val k).isSome_eq,← l]
  exact h _ (I.tok _)
 ·subst ey
  cases (show u=Value.ref b from ry)
  obtain⟨z,hd,xs,rel,dd⟩:=q8m I.hok e
  refine wpAny_in_heap (tupleKind_room_in1 hu) (q5j I.hok eb) hd dd ?_
  have q:=(rel.val k).isSome_eq
  rw[Option.isSome_map]at q
  rw[← q,← l]
  exact h _ (I.tok _)
theorem qjd {Q:Value→Shared→Prop} (hu:A.units + 1 < cLine) (I:Inv X pins σ H s) (g:DGet H a y o) (ry:RelV y u) (h:∀ s',Inv X pins σ H s'→Q (.bool (!o.isSome)) s') :
  wpAny (model X.prog X.w) A (compareOp .NotIn u (.ref a)) Q E s:=by
 rcases g with ⟨kvs,k,e,ey,l⟩ | ⟨kvs,k,b,e,ey,eb,l⟩
 ·subst ey
  obtain⟨z,hd,vs,rel,dd⟩:=q78 I.hok e
  refine wpAny_notIn_of (q7s ry) hd dd.mapOf ?_
  rw[← (rel.val k).isSome_eq,← l]
  exact h _ (I.tok _)
 ·subst ey
  cases (show u=Value.ref b from ry)
  obtain⟨z,hd,xs,rel,dd⟩:=q8m I.hok e
  refine wpAny_notIn_heap (tupleKind_room_in1 hu) (q5j I.hok eb) hd dd ?_
  have q:=(rel.val k).isSome_eq
  rw[Option.isSome_map]at q
  rw[← q,← l]
  exact h _ (I.tok _)
theorem q95 {h':Heap} {t':Nat} {ob:HO} (I:Inv X pins σ H s) (mu:Mut (H a)) (hs:Heap.SameBut a s.heap h') (he:∃ q,h'.get? a=some q) (new:q1n X.prog X.w (upd H a ob) h' a ob) :
  Inv X pins σ (upd H a ob) { s with heap:=h',toks:=t' } :=
 I.write (x:=a) (e:=a) mu (.inl rfl) (fun b q hb z=>(hs.2 b hb).trans z) he new
theorem qd1 {P:Program} {w:World} {H':Hp} {h':Heap} {kvs:List (Key×V)} {vs:List (Key×Value)} (z:kvs.length≤sizeLine) (hd:(a == sysModules)=false) (rel:KV kvs vs) (dd:h'.DictOf (q1b P w) a vs) :
  q1n P w H' h' a (.dK kvs):=⟨z,hd,vs,rel,dd⟩
theorem qdq {H':Hp} {Q:Unit→Shared→Prop} (hu:A.units + 1 < cLine) (I:Inv X pins σ H s) (g:DPut H a y v H') (ry:RelV y u) (rv:RelV v r) (h:∀ s',Inv X pins σ H' s'→Q () s') :
  wpAny (model X.prog X.w) A (setItem (.ref a) u r) Q E s:=by
 rcases g with ⟨kvs,k,e,ey,l,eH⟩ | ⟨kvs,k,b,e,ey,eb,l,eH⟩
 ·subst ey eH
  obtain⟨z,hd,vs,rel,dd⟩:=qez I.hok e
  have hz:vs.length≤sizeLine:=by rw[← rel.length];exact z
  have hl:(putK kvs k v).length≤sizeLine:=by have:=q0o kvs k v;omega
  refine wpAny_setItem_pairs (hsz:=hz) (q7s ry) dd fun h' dd' hs=>h _ ?_
  have he:∃ q,h'.get? a=some q:=let ⟨q,_,_,hq,_⟩:=dd';⟨q,hq⟩
  exact q95 I (by rw[e];exact True.intro) hs he (qd1 hl hd (rel.put k rv) dd')
 ·subst ey eH
  cases (show u=Value.ref b from ry)
  obtain⟨z,hd,xs,rel,dd⟩:=qli I.hok e
  have hz:xs.length≤sizeLine:=by rw[← Paired.length rel];exact z
  have hl:(putK kvs k v).length≤sizeLine:=by have:=q0o kvs k v;omega
  refine wpAny_setItem_heap (hsz:=hz) (tupleKind_room_in1 hu) (q5j I.hok eb) dd fun h' dd' hs=>h _ ?_
  obtain⟨q,es,ep,hq,h2,h3,h4,_,h5⟩:=dd'
  refine q95 I (by rw[e];exact True.intro) hs ⟨q,hq⟩ ⟨hl,hd,_,(rel.put k eb rv).keeps fun c ys ec=> ?_,q,es,ep,hq,h2,h3,h4,h5⟩
  rw[q0b (q30 ec e (fun z=>nomatch z))]
  exact ec
end
section
variable {X:Cx} {pins:List (Addr×Obj)} {σ:St} {H:Hp} {s:Shared} {a:Addr} {kvs:List (Key×V)} {k:Key} {u:Value} {A:Around} {E:Value→Shared→Prop}
end
def NoSl (i:Expr):Prop:=∀ ov iv,subscripted i false ov iv=operate [ov,iv] (getItem ov iv)
theorem qhz {prog:Program} {w:World} {A:Around} {E:Value→Shared→Prop} {s:Shared} {env:Env} {value slice:Expr} {pos:Pos} {T id:String} {Q:Value→Shared→Prop}
  (hl:typeLookup (.type T) "__getitem__" = pure (some (.builtin id))) (hs:NoSl slice)
  (h:wpAny (model prog w) A (eval value env) (fun o s₁=>wpAny (model prog w) A (eval slice env) (fun i s₂=>s₂.TypeIs o T∧wpAny (model prog w) A (getItem o i) Q E s₂) E s₁) E s) :
  wpAny (model prog w) A (eval (.Subscript value slice pos) env) Q E s:=by
 refine Subscript_ (wpAny_mono h (fun o s₁ h₁=>wpAny_mono h₁ (fun i s₂ h₂=> ?_) fun _ _ x=>x) fun _ _ x=>x)
 obtain⟨hT,h₂⟩:=h₂
 unfold subscriptTail
 refine wpAny_bind ?_
 rw[getitemInPython_of_ne hT.not_modules]
 refine wpAny_bind (wpAny_specialOf hT hl ?_)
 have fin:wpAny (model prog w) A (subscripted slice false o i) (fun r s₃=>wpAny (model prog w) A (letTemporaryGo value o r >>= fun _=>pure r) Q E s₃) E s₂:=by
  rw[hs o i]
  exact wpAny_operating (wpAny_mono h₂ (fun r s₃ h₃=>wpAny_bind (wpAny_letTemporaryGo (wpAny_pure h₃))) fun _ _ x=>x)
 first
  | exact wpAny_pure (wpAny_bind fin)
  | exact wpAny_bind (wpAny_pure (wpAny_bind fin))
  | exact wpAny_bind fin
theorem q91 {X:Cx} {pins:List (Addr×Obj)} {σ:St} {H:Hp} {s:Shared} {a:Addr} {y:V} {o:Option V} (I:Inv X pins σ H s) (g:DGet H a y o):s.TypeIs (.ref a) "dict" := by
 rcases g with ⟨kvs,k,e,_,_⟩ | ⟨kvs,k,b,e,_,_,_⟩
 ·obtain⟨_,_,vs,_,dd⟩:=q78 I.hok e
  exact dd.typeIs
 ·obtain⟨_,_,xs,_,dd⟩:=q8m I.hok e
  exact dd.typeIs
def ql2 (td ty:TE):TE:=fun σ H Q=>td σ H fun x H1=>ty σ H1 fun y H2=>∃ a v,x= .ref a∧DGet H2 a y (some v)∧Q v H2
def tDIn (ty td:TE):TE:=fun σ H Q=>ty σ H fun y H1=>td σ H1 fun x H2=>∃ a o,x= .ref a∧DGet H2 a y o∧Q (.bl o.isSome) H2
def qj7 (ty td:TE):TE:=fun σ H Q=>ty σ H fun y H1=>td σ H1 fun x H2=>∃ a o,x= .ref a∧DGet H2 a y o∧Q (.bl (!o.isSome)) H2
def qi0 (td ty tv:TE):TS:=fun D σ H=>tv σ H fun v H1=>td σ H1 fun x H2=>ty σ H2 fun y H3=>∃ a H4,x= .ref a∧DPut H3 a y v H4∧D.nx σ H4
section
variable {X:Cx} {o i e value:Expr} {pos pos' tpos:Pos} {td ty tv:TE}
theorem q0u (hu:X.A.units + 1 < cLine) (ho:PE X o td) (hi:PE X i ty) (hs:NoSl i):PE X (.Subscript o i pos) (ql2 td ty):=by
 intro pins s σ H Q I h
 refine qhz PySem.F.slot_dict_getitem.lookup hs (thn (ho pins s σ H _ I h) fun u s1 ⟨x,H1,I1,rx,q1⟩=>thn (hi pins s1 σ H1 _ I1 q1) fun iv s2 ⟨y,H2,I2,ry,a,v,ex,g,q2⟩=> ?_)
 subst ex
 obtain rfl:u=Value.ref a:=rx
 exact⟨q91 I2 g,qei hu I2 g ry fun w' s3 I3 rw'=>⟨v,H2,I3,rw',q2⟩⟩
theorem qgn (hu:X.A.units + 1 < cLine) (hi:PE X i ty) (ho:PE X o td):PC X .In i o (tDIn ty td):=by
 intro pins s σ H Q I h
 refine thn (hi pins s σ H _ I h) fun iv s1 ⟨y,H1,I1,ry,q1⟩=>thn (ho pins s1 σ H1 _ I1 q1) fun u s2 ⟨x,H2,I2,rx,a,ov,ex,g,q2⟩=> ?_
 subst ex
 obtain rfl:u=Value.ref a:=rx
 exact d_in hu I2 g ry fun s3 I3=>⟨.bl ov.isSome,H2,I3,rfl,q2⟩
theorem q5k (hu:X.A.units + 1 < cLine) (hi:PE X i ty) (ho:PE X o td):PC X .NotIn i o (qj7 ty td):=by
 intro pins s σ H Q I h
 refine thn (hi pins s σ H _ I h) fun iv s1 ⟨y,H1,I1,ry,q1⟩=>thn (ho pins s1 σ H1 _ I1 q1) fun u s2 ⟨x,H2,I2,rx,a,ov,ex,g,q2⟩=> ?_
 subst ex
 obtain rfl:u=Value.ref a:=rx
 exact qjd hu I2 g ry fun s3 I3=>⟨.bl (!ov.isSome),H2,I3,rfl,q2⟩
theorem q1e (hu:X.A.units + 1 < cLine) (ho:PE X o td) (hi:PE X i ty) (hv:PE X value tv) (hs:swapsWith value (some (.Subscript o i pos')) pos.line X.env=pure false) :
  PS X (.Assign [.Subscript o i pos'] value pos) (qi0 td ty tv):=by
 intro pins s σ H D I h
 refine wpAny_Assign_Subscript (thn (hv pins s σ H _ I h) fun r s1 ⟨v,H1,I1,rv,q1⟩=>thn (ho pins s1 σ H1 _ I1 q1) fun u s2 ⟨x,H2,I2,rx,q2⟩=>thn (hi pins s2 σ H2 _ I2 q2) fun iv s3 ⟨y,H3,I3,ry,a,H4,ex,g,q3⟩=> ?_) hs
 subst ex
 obtain rfl:u=Value.ref a:=rx
 exact qdq hu I3 g ry rv fun s4 I4=>⟨σ,H4,I4,q3⟩
end
theorem qa0 {P:Program} {w:World} {H:Hp} (h:Heap) (hb:sysModules < h.objs.size):q1n P w H (h.push { cls:= .type "dict",data:= .dict #[] }) h.objs.size (.dK []) :=
 ⟨Nat.zero_le _,beq_eq_false_iff_ne.mpr (Ne.symm (Nat.ne_of_lt hb)),[],.nil,Heap.DictOf.new h⟩
theorem qf9 {P:Program} {w:World} {H:Hp} (h:Heap) (hb:sysModules < h.objs.size):q1n P w H (h.push { cls:= .type "dict",data:= .dict #[] }) h.objs.size (.dT []) :=
 ⟨Nat.zero_le _,beq_eq_false_iff_ne.mpr (Ne.symm (Nat.ne_of_lt hb)),[],.nil,_,#[],0,Heap.get?_push_size _ rfl,⟨rfl,rfl,rfl⟩,rfl,rfl,List.nodup_nil⟩
def qjt:TE:=fun _ H Q=>∀ p,H p=none→Q (.ref p) (upd H p (.dK []))
def qji:TE:=fun _ H Q=>∀ p,H p=none→Q (.ref p) (upd H p (.dT []))
section
variable {X:Cx} {pos:Pos}
theorem q2y:PE X (.Dict [] [] pos) qjt:=fun pins s σ H Q I h =>
 wpAny_Dict_empty ⟨.ref s.heap.objs.size,_,I.laid (a:=s.heap.objs.size) (o:= .dK []) (t':=s.toks) (fun _ _ q=>Heap.get?_push_of_some _ q) (Nat.le_refl _) (qa0 s.heap I.big),rfl,h _ (I.hok.fresh (Nat.le_refl _))⟩
theorem qfj:PE X (.Dict [] [] pos) qji:=fun pins s σ H Q I h =>
 wpAny_Dict_empty ⟨.ref s.heap.objs.size,_,I.laid (a:=s.heap.objs.size) (o:= .dT []) (t':=s.toks) (fun _ _ q=>Heap.get?_push_of_some _ q) (Nat.le_refl _) (qf9 s.heap I.big),rfl,h _ (I.hok.fresh (Nat.le_refl _))⟩
end
def qcp:List (TE×TE)→St→Hp→(List (V×V)→Hp→Prop)→Prop
 | [],_,H,Q=>Q [] H
 | (tk,tv) :: r,σ,H,Q=>tk σ H fun x H1=>tv σ H1 fun y H2=>qcp r σ H2 fun ps H3=>Q ((x,y) :: ps) H3
abbrev VV:List (V×V)→List (Value×Value)→Prop:=Paired fun p q=>RelV p.1 q.1∧RelV p.2 q.2
def PPs (X:Cx) (pos:Pos) (keys:List (Option Expr)) (values:List Expr) (trs:List (TE×TE)):Prop :=
 ∀ (pins:List (Addr×Obj)) (s:Shared) (σ:St) (H:Hp) (Q:List (V×V)→Hp→Prop),Inv X pins σ H s→qcp trs σ H Q →
  wpAny (model X.prog X.w) X.A (evalPairs (pairTrees keys values X.env pos)) (fun vs s'=>∃ ps H',Inv X pins σ H' s'∧VV ps vs∧Q ps H') X.xe s
theorem qc5 {X:Cx} {pos:Pos}:PPs X pos [] [] []:=fun pins s σ H Q I h=>pairTrees_nil_walk ⟨[],H,I,.nil,h⟩
theorem q47 {X:Cx} {pos:Pos} {k v:Expr} {ks:List (Option Expr)} {vs:List Expr} {tk tv:TE} {trs:List (TE×TE)} (hk:PE X k tk) (hv:PE X v tv) (hr:PPs X pos ks vs trs) :
  PPs X pos (some k :: ks) (v :: vs) ((tk,tv) :: trs):=fun pins s σ H Q I h =>
 pairTrees_cons_walk (thn (hk pins s σ H _ I h) fun u s1 ⟨x,H1,I1,rx,q1⟩=>thn (hv pins s1 σ H1 _ I1 q1) fun w2 s2 ⟨y,H2,I2,ry,q2⟩ =>
  thn (hr pins s2 σ H2 _ I2 q2) fun ws s3 ⟨ps,H3,I3,rel,q3⟩=>⟨(x,y) :: ps,H3,I3,.cons ⟨rx,ry⟩ rel,q3⟩)
def q5g (kvs more:List (Key×V)):List (Key×V):=more.foldl (fun acc kv=>putK acc kv.1 kv.2) kvs
theorem KV.merge:∀ {more:List (Key×V)} {rs:List (Key×Value)} {kvs:List (Key×V)} {vs:List (Key×Value)},KV more rs→KV kvs vs→KV (q5g kvs more) (merged vs rs):=by
 intro more rs kvs vs r
 unfold KV at r
 induction r generalizing kvs vs with
 | nil=>intro q;exact q
 | @cons p q ps qs h t ih =>
  intro r0
  have e:KV (putK kvs p.1 p.2) (stored vs q.1 q.2):=by
   have:=r0.put p.1 h.2
   rw[← h.1];exact this
  exact ih e
theorem q48:∀ (more kvs:List (Key×V)),(q5g kvs more).length≤kvs.length + more.length
 | [],kvs=>by show kvs.length≤kvs.length + 0;omega
 | p :: r,kvs=>by
  have h1:=q48 r (putK kvs p.1 p.2)
  have h2:=q0o kvs p.1 p.2
  show (q5g (putK kvs p.1 p.2) r).length≤_
  rw[List.length_cons];omega
theorem q6j {P:Program} {w:World}:∀ {kvs:List (Key×V)} {ws:List (Value×Value)},VV (kvs.map fun kv=>(kV kv.1,kv.2)) ws→∃ rs,Carries (q1b P w) ws rs∧KV kvs rs
 | [],_,r=>by rw[List.map_nil]at r;cases r;exact⟨[],True.intro,.nil⟩
 | p :: kvs,_,r=>by
  rw[List.map_cons]at r
  cases r with
  | @cons a b as bs h t =>
   obtain⟨rs,c,q⟩:=q6j (P:=P) (w:=w) t
   obtain⟨b1,b2⟩:=b
   exact⟨(p.1,b2) :: rs,⟨q7s h.1,rfl,c⟩,.cons ⟨rfl,h.2⟩ q⟩
def qm4 (trs:List (TE×TE)):TE:=fun σ H Q=>∀ p,H p=none→qcp trs σ (upd H p (.dK [])) fun ps H2=>H2 p=some (.dK [])∧∃ kvs:List (Key×V),ps=kvs.map (fun kv=>(kV kv.1,kv.2))∧kvs.length≤15∧Q (.ref p) (upd H2 p (.dK (q5g [] kvs)))
theorem qd3 {X:Cx} {pos:Pos} {keys:List (Option Expr)} {values:List Expr} {trs:List (TE×TE)} (h:PPs X pos keys values trs) (hall:keys.all (·.isSome)=true) (hl:keys.length=values.length) (h0:keys ≠ [])
  (h15:keys.length≤15):PE X (.Dict keys values pos) (qm4 trs):=by
 intro pins s σ H Q I q
 have hn:=I.hok.fresh (Nat.le_refl s.heap.objs.size)
 have I1:=I.laid (a:=s.heap.objs.size) (o:= .dK []) (h':=s.heap.push { cls:= .type "dict",data:= .dict #[] }) (t':=s.toks) (fun _ _ q=>Heap.get?_push_of_some _ q) (Nat.le_refl _) (qa0 s.heap I.big)
 refine wpAny_Dict_walk (knd:=q1b X.prog X.w) hall hl h0 h15 (thn (h pins _ σ _ _ I1 (q _ hn)) fun ws s2 ⟨ps,H2,I2,rel,e,kvs,ep,lk,q2⟩=> ?_)
 subst ep
 obtain⟨rs,c,rk⟩:=q6j (P:=X.prog) (w:=X.w) rel
 obtain⟨z,hd,vs0,r0,dd⟩:=qez I2.hok e
 cases r0
 refine⟨rs,c,dd,fun h' dd' hs=>⟨.ref s.heap.objs.size,_,?_,rfl,q2⟩⟩
 have hz:(q5g [] kvs).length≤sizeLine:=by
  have h1:=q48 kvs []
  rw[List.length_nil]at h1
  rw[sizeLine_eq];omega
 have he:∃ q,h'.get? s.heap.objs.size=some q:=let ⟨q,_,_,hq,_⟩:=dd';⟨q,hq⟩
 exact q95 I2 (by rw[e];exact True.intro) hs he (qd1 hz hd (rk.merge .nil) dd')
structure M1 (X:Cx) (o:Expr) (m:Str) (apos:Pos) (e:Expr) (cpos:Pos):Prop where
 base:attributeBase o m X.env (eval o X.env)=eval o X.env
 few:((backTo cpos (starEach [e] X.env)).all (fun x=> !x.1) && (backToKw cpos (keywordEach [] X.env)).all (fun x=>x.1.isSome)
  && decide (([e]:List Expr).length + ([]:List Keyword).length + (if ([]:List Keyword).isEmpty then 0 else 1) < 30))=true
 line:(apos.endLine == cpos.line)=true
 trees:backTo cpos (starEach [e] X.env)=[(false,eval e X.env)]
structure M2 (X:Cx) (o:Expr) (m:Str) (apos:Pos) (e f:Expr) (cpos:Pos):Prop where
 base:attributeBase o m X.env (eval o X.env)=eval o X.env
 few:((backTo cpos (starEach [e,f] X.env)).all (fun x=> !x.1) && (backToKw cpos (keywordEach [] X.env)).all (fun x=>x.1.isSome)
  && decide (([e,f]:List Expr).length + ([]:List Keyword).length + (if ([]:List Keyword).isEmpty then 0 else 1) < 30))=true
 line:(apos.endLine == cpos.line)=true
 trees:backTo cpos (starEach [e,f] X.env)=[(false,eval e X.env),(false,eval f X.env)]
def IsD (H:Hp) (a:Addr):Prop:=(∃ kvs,Rd H a (.dK kvs))∨∃ kvs,Rd H a (.dT kvs)
theorem qgt {X:Cx} {pins:List (Addr×Obj)} {σ:St} {H:Hp} {s:Shared} {a:Addr} (I:Inv X pins σ H s) (d:IsD H a) :
  s.TypeIs (.ref a) "dict" ∧ (∀ b,Value.ref a= .ref b→∃ ob,s.heap.get? b=some ob∧ob.dict=none)∧(a == sysModules)=false:=by
 rcases d with ⟨kvs,e⟩ | ⟨kvs,e⟩
 ·obtain⟨_,hd,vs,_,dd⟩:=q78 I.hok e
  refine⟨dd.typeIs,fun b q=> ?_,hd⟩
  cases q
  obtain⟨ob,_,_,h1,h2,_⟩:=dd
  exact⟨ob,h1,h2.2.1⟩
 ·obtain⟨_,hd,xs,_,dd⟩:=q8m I.hok e
  refine⟨dd.typeIs,fun b q=> ?_,hd⟩
  cases q
  obtain⟨ob,_,_,h1,h2,_⟩:=dd
  exact⟨ob,h1,h2.2.1⟩
section
variable {X:Cx} {pins:List (Addr×Obj)} {σ:St} {H:Hp} {s:Shared} {a:Addr} {y d:V} {u r:Value} {o:Option V} {A:Around} {E:Value→Shared→Prop}
theorem qk0 {Q:Value→Shared→Prop} (hu:A.units + 1 < cLine) (I:Inv X pins σ H s) (g:DGet H a y o) (ry:RelV y u) (h:∀ w' s',Inv X pins σ H s'→RelV (o.getD .non) w'→Q w' s') :
  wpAny (model X.prog X.w) A (call (.builtin "dict.get") [.ref a,u]) Q E s:=by
 rcases g with ⟨kvs,k,e,ey,l⟩ | ⟨kvs,k,b,e,ey,eb,l⟩
 ·subst ey
  obtain⟨z,hd,vs,rel,dd⟩:=q78 I.hok e
  refine call_meetsIn PySem.F.slot_dict_get dd.typeIs PySem.F.entry_dict_get (PySem.F.args_dict_get_2 _ _) (meets_dict_get (q1b X.prog X.w) a (q7s ry) hd) ⟨_,dd.mapOf,h _ _ (I.tok _) ?_⟩
  rw[l]
  exact(rel.val k).getD rfl
 ·subst ey
  cases (show u=Value.ref b from ry)
  obtain⟨z,hd,xs,rel,dd⟩:=q8m I.hok e
  refine call_meetsIn PySem.F.slot_dict_get dd.typeIs PySem.F.entry_dict_get (PySem.F.args_dict_get_2 _ _) (meetsH_dict_get (tupleKind (q1b X.prog X.w)) a b hd) ⟨tupleKind_room_in1 hu,k,xs,q5j I.hok eb,dd,h _ _ (I.tok _) ?_⟩
  rw[l]
  exact(rel.val k).getD rfl
theorem qko {Q:Value→Shared→Prop} (hu:A.units + 1 < cLine) (I:Inv X pins σ H s) (g:DGet H a y o) (ry:RelV y u) (rd:RelV d r) (h:∀ w' s',Inv X pins σ H s'→RelV (o.getD d) w'→Q w' s') :
  wpAny (model X.prog X.w) A (call (.builtin "dict.get") [.ref a,u,r]) Q E s:=by
 rcases g with ⟨kvs,k,e,ey,l⟩ | ⟨kvs,k,b,e,ey,eb,l⟩
 ·subst ey
  obtain⟨z,hd,vs,rel,dd⟩:=q78 I.hok e
  refine call_meetsIn PySem.F.slot_dict_get dd.typeIs PySem.F.entry_dict_get (PySem.F.args_dict_get_3 _ _ _) (meets_dict_get_default (q1b X.prog X.w) a (q7s ry) hd r) ⟨_,dd.mapOf,h _ _ (I.tok _) ?_⟩
  rw[l]
  exact(rel.val k).getD rd
 ·subst ey
  cases (show u=Value.ref b from ry)
  obtain⟨z,hd,xs,rel,dd⟩:=q8m I.hok e
  refine call_meetsIn PySem.F.slot_dict_get dd.typeIs PySem.F.entry_dict_get (PySem.F.args_dict_get_3 _ _ _) (meetsH_dict_get_default (tupleKind (q1b X.prog X.w)) a b hd r) ⟨tupleKind_room_in1 hu,k,xs,q5j I.hok eb,dd,h _ _ (I.tok _) ?_⟩
  rw[l]
  exact(rel.val k).getD rd
end
def qk3 (td ty:TE):TE:=fun σ H Q=>td σ H fun x H1=>∃ a,x= .ref a∧IsD H1 a∧ty σ H1 fun y H2=>∃ o,DGet H2 a y o∧Q (o.getD .non) H2
def qkv (td ty tx:TE):TE:=fun σ H Q=>td σ H fun x H1=>∃ a,x= .ref a∧IsD H1 a∧ty σ H1 fun y H2=>tx σ H2 fun z H3=>∃ o,DGet H3 a y o∧Q (o.getD z) H3
section
variable {X:Cx} {o e f:Expr} {apos cpos:Pos} {td ty tx:TE}
theorem qel (hu:X.A.units + 1 < cLine) (ho:PE X o td) (he:PE X e ty) (m:M1 X o "get" apos e cpos):PE X (.Call (.Attribute o "get" apos) [e] [] cpos) (qk3 td ty):=by
 intro pins s σ H Q I h
 refine wpAny_Call_method m.base m.few m.line PySem.F.plainAttrs_dict PySem.F.slot_dict_get PySem.F.type_dict_get (thn (ho pins s σ H _ I h) fun u s1 ⟨x,H1,I1,rx,a,ex,d,q1⟩=> ?_)
 subst ex
 obtain rfl:u=Value.ref a:=rx
 obtain⟨t1,t2,_⟩:=qgt I1 d
 refine⟨t1,t2,?_⟩
 rw[m.trees]
 refine Calls.callWith_builtin rfl (Calls.evalArgs_plain (Calls.spliced_cons (thn (he pins s1 σ H1 _ I1 q1) fun iv s2 ⟨y,H2,I2,ry,ov,g,q2⟩=>Calls.spliced_nil ?_)))
 exact qk0 hu I2 g ry fun w' s3 I3 rw'=>⟨_,H2,I3,rw',q2⟩
theorem q3q (hu:X.A.units + 1 < cLine) (ho:PE X o td) (he:PE X e ty) (hf:PE X f tx) (m:M2 X o "get" apos e f cpos):PE X (.Call (.Attribute o "get" apos) [e,f] [] cpos) (qkv td ty tx):=by
 intro pins s σ H Q I h
 refine wpAny_Call_method m.base m.few m.line PySem.F.plainAttrs_dict PySem.F.slot_dict_get PySem.F.type_dict_get (thn (ho pins s σ H _ I h) fun u s1 ⟨x,H1,I1,rx,a,ex,d,q1⟩=> ?_)
 subst ex
 obtain rfl:u=Value.ref a:=rx
 obtain⟨t1,t2,_⟩:=qgt I1 d
 refine⟨t1,t2,?_⟩
 rw[m.trees]
 refine Calls.callWith_builtin rfl (Calls.evalArgs_plain (Calls.spliced_cons (thn (he pins s1 σ H1 _ I1 q1) fun iv s2 ⟨y,H2,I2,ry,q2⟩ =>
  Calls.spliced_cons (thn (hf pins s2 σ H2 _ I2 q2) fun fv s3 ⟨z,H3,I3,rz,ov,g,q3⟩=>Calls.spliced_nil ?_))))
 exact qko hu I3 g ry rz fun w' s4 I4 rw'=>⟨_,H3,I4,rw',q3⟩
end
section
variable {X:Cx} {pins:List (Addr×Obj)} {σ:St} {H:Hp} {s:Shared} {a:Addr} {kvs:List (Key×V)} {A:Around} {E:Value→Shared→Prop}
theorem qfy {Q:Value→Shared→Prop} (I:Inv X pins σ H s) (e:Rd H a (.dK kvs)) (h:∀ p s',H p=none→Inv X pins σ (upd H p (.dK kvs)) s'→Q (.ref p) s'):wpAny (model X.prog X.w) A (call (.type "dict") [.ref a]) Q E s:=by
 obtain⟨z,hd,vs,rel,dd⟩:=q78 I.hok e
 refine kt_call_dict hd dd (by rw[← rel.length];exact z) fun h' dd' hs=> ?_
 refine h _ _ (I.hok.fresh (Nat.le_refl _)) (I.laid (a:=s.heap.objs.size) (o:= .dK kvs) (t':=s.toks) (fun b q hq=> ?_) (Nat.le_refl _) (qd1 z (beq_eq_false_iff_ne.mpr (Ne.symm (Nat.ne_of_lt I.big))) rel dd'))
 exact(hs.2 b (Nat.ne_of_lt (Heap.lt_size hq))).trans (Heap.get?_push_of_some _ hq)
end
section
variable {X:Cx} {pins:List (Addr×Obj)} {σ:St} {H:Hp} {s:Shared} {a:Addr} {y:V} {u:Value} {A:Around} {E:Value→Shared→Prop}
end
end L2
namespace Att
open PySem PySem.W PySem.Calls PyProof.Rows
theorem q5h {P:Params} {h:Heap}:∀ (ns:List Int) (vs:List Value),WellAll P h vs (ns.map WData.int)→IntsAre vs ns:=by
 intro ns
 induction ns with
 | nil =>
  intro vs w
  rw[List.map_nil]at w
  cases w
  exact .nil
 | cons n ns ih =>
  intro vs w
  rw[List.map_cons]at w
  cases w with
  | cons a b =>
   cases a
   exact .cons _ _ (ih _ b)
theorem qdr {l:OpenLaw} {n:Nat} (hn:l.most=some n) {P:Params} {h:Heap} {args:List WData} {vals:List Value}
  (hpre:l.row.toRowW.claim.pre args=true) (hwl:WellAll P h vals args) :
  ∃ a vs ns,vals=[Value.ref a]∧args=[WData.list (ns.map WData.int)]∧h.get? a=some { cls:= .type "list",data:= .seq vs.toArray }∧IntsAre vs ns∧ns.length≤n:=by
 have hsh:WShape.hasAll [] args [.list .int]=true:=(pre_splitW hpre).1
 have hc:l.pre.holds [] { args:=args }=true:=(pre_splitW hpre).2
 obtain⟨d,r,rfl,h1,h2⟩:=hasAllW_cons hsh
 obtain rfl:=hasAllW_nil h2
 obtain⟨xs,rfl,h3⟩:=hasW_list h1
 obtain⟨ns,rfl⟩:=items_int h3
 have hlen:ns.length≤n:=by
  unfold OpenLaw.pre at hc
  have h4:(WTm.not (.lt (.lit (.int (n:Int))) (.len (.arg 0)))).holds [] { args:=[.list (ns.map .int)] }=true:=by
   have h4:=(holds_andW hc).1
   rw[hn]at h4
   exact h4
  have h5:=condW_of h4 (w_not (w_lt w_lit (w_len_list (w_arg rfl))))
  rw[List.length_map]at h5
  refine Nat.le_of_not_lt fun q=> ?_
  have q':(n:Int) < ((ns.length:Nat):Int):=by omega
  first
   | (rw[decide_eq_true q']at h5;exact absurd h5 (by decide))
   | (simp at h5;omega)
 cases hwl with
 | cons w1 w2 =>
  cases w2
  cases w1 with
  | list ho hall=>exact⟨_,_,ns,rfl,rfl,ho,q5h ns _ hall,hlen⟩
theorem qdi (l:OpenLaw) (args:List WData):l.row.toRowW.claim.post args (.bool true) args=true :=
 postW_of (r:=l.row.toRowW) (X:=(true == true))
  (show WShape.has [] (.bool true) .bool=true by first | rfl | decide | simp[WShape.has,WShape.arms,WShape.armsAll])
  (show (WTm.eq .res (.lit (.bool true))).value [] { args:=args,res:=some (.bool true),after:=args }=some (.bool (true == true)) from w_eq_bool (w_res rfl) w_lit) rfl
theorem attach_call {l:OpenLaw} {n:Nat} {q:Program} {loose:List Str} {XP:(Str→Option Value)→Heap→Prop} {YP:World→Heap→Prop} {d:DefRec}
  (hn:l.most=some n) (hdf:d.params.defaults=[])
  (call:∀ (w:World) (s₀ s₁:Shared) (mg mb:Str→Option Value) (fa:Addr) (o:Obj) (pm cd doc:Value) (a:Addr) (vs:List Value) (ns:List Int),
   Ground q loose [] XP w s₀ mg mb s₁.heap→YP w s₁.heap →
   s₁.heap.get? fa=some o→o.data= .func (docDef d.name d.params d.body d.scope pm cd doc)→s₁.heap.CodeRec cd d.name→mg d.name=some (.ref fa) →
   s₁.heap.get? a=some { cls:= .type "list",data:= .seq vs.toArray }→IntsAre vs ns→ns.length≤n→s₁.gens= #[] →
   codeAny (model l.prog w) callerA (.call (.ref fa) ⟨[.ref a],[]⟩) (fun r s'=>r= .ok (.ret (.bool true))∧OldK s₁.heap s'.heap∧s'.os=s₁.os∧AllBare s'.gens) s₁) :
  WalkO q loose XP YP l.row.toRowW d [] (fun f vs=>PySem.call f vs):=by
 intro w s₀ s₁ mg mb G Y fa o pm cd doc dV kV ho hd hcd hD hmg hg args vals as hpre hlay hrd hwl hlo
 obtain rfl:dV= .none:=Dflts.none hD hdf
 obtain rfl:kV= .none:=Dflts.noKw hD
 obtain⟨a,vs,ns,rfl,rfl,hobj,hints,hlen⟩:=qdr hn hpre hwl
 refine enter_call (codeAny_mono (call w s₀ s₁ mg mb fa o pm cd doc a vs ns G Y ho (fd_plain hd) hcd hmg hobj hints hlen hg) fun r s' hq=> ?_)
 obtain⟨rfl,h2,h3,h4⟩:=hq
 exact⟨.inl ⟨.bool true,.bool true,[],rfl,fun _=>rfl,.bool true,qdi l _,fun _=>⟨List.Pairwise.nil,fun _ hm=>(nomatch hm)⟩⟩,h2,h3,h4⟩
section
variable {prog:Program} {w:World} {A:Around} {E:Value→Shared→Prop} {s:Shared} {K:Frag}
end
end Att
namespace L2
open PySem PySem.Spec PyProof.Rows
theorem q8j:∀ {vs:List Value} {ns:List Int},IntsAre vs ns→Vals (ns.map V.int) vs
 | _,_,.nil=> .nil
 | _,_,.cons n t h=> .cons ⟨t,rfl⟩ (q8j h)
def Only (H:Hp):Prop:=∀ b,H b=none∨∃ o xs,H b=some (.frz o (.lst xs))
theorem qf6 {P:Program} {w:World} {K:PySem.W.Frag} {mg mb:Str→Option Value} {CX:CXT} {k:Nat} {fa a:Addr} {fd:FuncData} {x:Str} {sp:Sp} {s₁:Shared} {vs:List Value} {ns:List Int}
  (KX:K.In s₁.heap) (hns:s₁.heap.Ns mainGlobals mg) (hb:s₁.heap.Ns builtinsNs mb) (hbb:∀ x:Str,x ≠ "__name__" → mb x=bootBuiltins x) (hlim:s₁.heap.NoLimit) (hg:s₁.gens= #[])
  (ha:s₁.heap.get? a=some { cls:= .type "list",data:= .seq vs.toArray }) (hi:IntsAre vs ns) (hl:ns.length≤sizeLine) (hr:Room k callerA)
  (F:∀ base:Heap,K.In base→base.Ns mainGlobals mg→FnOk P w K mg base CX k fa fd [x] sp) (hbind:∀ (s:Shared) (u:Value),BindsTo s fd ⟨[u],[]⟩ [(x,u)])
  (hsp:∀ H:Hp,Only H→SqL K H a (ns.map V.int)→sp [.ref a] H (fun v _=>v= .bl true) fun _ _ _=>False)
  (hCX:∀ H e s',CX [] H s₁ (fun _ _ _=>False) e s'→False) :
  codeAny (model P w) callerA (.call (.ref fa) ⟨[.ref a],[]⟩) (fun r s'=>r= .ok (.ret (.bool true))∧OldK s₁.heap s'.heap∧s'.os=s₁.os∧AllBare s'.gens) s₁:=by
 have rv:=q8j hi
 have lenV:=hi.length
 have core:∀ H:Hp,Only H→SqL K H a (ns.map V.int)→HOk P w H s₁.heap→(∀ b,H b ≠ none→b=a)→(H a ≠ none→K.lookup a=none) →
   codeAny (model P w) callerA (.call (.ref fa) ⟨[.ref a],[]⟩) (fun r s'=>r= .ok (.ret (.bool true))∧OldK s₁.heap s'.heap∧s'.os=s₁.os∧AllBare s'.gens) s₁:=by
  intro H hO hS hok hA hK
  have base_of:∀ {b:Addr} {o:Obj},s₁.heap.get? b=some o→H b=none→(hidT s₁.heap H).get? b=some o:=fun e n=>qer e n
  have noA:∀ {b:Addr} {o:Obj} {es:Array DictEntry} {ep:Nat},s₁.heap.get? b=some o→o.data= .dict es ep→H b=none:=fun {b o es ep} e d=>by
   cases q:H b with
   | none=>rfl
   | some u =>
    have e':b=a:=hA b (by rw[q];simp)
    subst e'
    rw[ha]at e;cases e
    have d':Data.seq vs.toArray _=Data.dict es ep:=d
    cases d'
  have nsK:∀ {b:Addr} {m:Str→Option Value},s₁.heap.Ns b m→(hidT s₁.heap H).Ns b m:=fun {b m} ⟨o,es,ep,e,d,r⟩=>⟨o,es,ep,base_of e (noA e d),d,r⟩
  have hKb:K.In (hidT s₁.heap H):=fun b o e=>base_of (KX b o e) (by
   cases q:H b with
   | none=>rfl
   | some u =>
    have e':b=a:=hA b (by rw[q];simp)
    subst e'
    rw[hK (by rw[q];simp)]at e;cases e)
  have hM:Mod K mg (hidT s₁.heap H):=⟨hKb,nsK hns,⟨mb,nsK hb,hbb⟩,let ⟨mc,h1,h2⟩:=hlim;⟨mc,nsK h1,h2⟩⟩
  have e0:Env0 P w K mg (hidT s₁.heap H) callerA [] s₁ H:=⟨rfl,hM,fun b o e=>qik e,Nat.le_of_eq (qdp _ _),trivial,fun b hb=>absurd (show b ∈ ([]:List Addr) from hb) (by simp),hok,.of_eq hg⟩
  refine codeAny_mono ((F _ hKb (nsK hns)).run callerA [] s₁ H ⟨[.ref a],[]⟩ [.ref a] [.ref a] _ _ hr e0 (hbind s₁ (.ref a)) (.cons rfl .nil) (hsp H hO hS)) fun r s' h=> ?_
  cases r with
  | error e=>exact(hCX H e s' h).elim
  | ok fl =>
   cases fl with
   | next=>exact False.elim h
   | brk=>exact False.elim h
   | cont=>exact False.elim h
   | ret u =>
    obtain⟨v,H',os,bare,un,hok',r',q⟩:=h
    have q':v= .bl true:=q
    subst q'
    obtain rfl:u=Value.bool true:=r'
    refine⟨rfl,OldK.of_keep fun b o e=> ?_,os,bare⟩
    cases q:H b with
    | none=>exact un.keep b o e q (by intro z;exact absurd (show b ∈ ([]:List Addr) from z) (by simp)) (by simp)
    | some u =>
     rcases hO b with z | ⟨ob,xs,z⟩
     ·rw[q]at z;cases z
     ·have z2:=un.frzs b ob _ z
      obtain⟨e1,_⟩:=hok b _ z
      obtain⟨e2,_⟩:=hok' b _ z2
      rw[e]at e1;cases e1
      exact e2
 cases hk:K.lookup a with
 | some o =>
  have e:=KX a o hk
  rw[ha]at e
  cases e
  refine core (fun _=>none) (fun _=> .inl rfl) (.inr ⟨_,vs.toArray,_,hk,rfl,rfl,rfl,by rw[List.size_toArray,lenV];exact hl,by simpa using rv⟩) (fun b u z=>by have z':(none:Option HO)=some u:=z;cases z') (fun b z=>absurd rfl z) fun z=>absurd rfl z
 | none =>
  refine core (fun b=>if b=a then some (.frz { cls:= .type "list",data:= .seq vs.toArray } (.lst (ns.map V.int))) else none) (fun b=> ?_) (.inl (.inr ⟨{ cls:= .type "list",data:= .seq vs.toArray },if_pos rfl⟩)) (fun b u z=> ?_) (fun b z=> ?_) fun _=>hk
  ·by_cases hb:b=a
   ·exact .inr ⟨_,_,if_pos hb⟩
   ·exact .inl (if_neg hb)
  ·by_cases hb:b=a
   ·have z':=(if_pos hb).symm.trans z
    cases z'
    subst hb
    exact⟨ha,by rw[List.length_map];exact hl,vs,_,rv,ha⟩
   ·have z':=(if_neg hb).symm.trans z
    cases z'
  ·by_cases hb:b=a
   ·exact hb
   ·exact absurd (if_neg hb) z
end L2
namespace L2
open PySem PySem.Spec PyProof.Rows
theorem walk_of {l:PySem.W.OpenLaw} {n k:Nat} {q:Program} {loose:List Str} {XP:(Str→Option Value)→Heap→Prop} {YP:World→Heap→Prop} {d:DefRec} {K:Params→PySem.W.Frag} {CX:World→CXT} {sp:World→Sp} {x:Str}
  (hn:l.most=some n) (hn2:n≤sizeLine) (hdf:d.params.defaults=[]) (hr:Room k callerA)
  (hY:∀ (w:World) (h:Heap),YP w h→(K w.params).In h)
  (F:∀ (w:World) (mg:Str→Option Value) (fa:Addr) (h:Heap),(K w.params).In h→h.Ns mainGlobals mg→mg d.name=some (.ref fa) →
   ∃ fd:FuncData,(∀ (s:Shared) (u:Value),BindsTo s fd ⟨[u],[]⟩ [(x,u)]) ∧
    ∀ base:Heap,(K w.params).In base→base.Ns mainGlobals mg→FnOk l.prog w (K w.params) mg base (CX w) k fa fd [x] (sp w))
  (hsp:∀ (w:World) (H:Hp) (a:Addr) (ns:List Int),ns.length≤n→Only H→SqL (K w.params) H a (ns.map V.int)→sp w [.ref a] H (fun v _=>v= .bl true) fun _ _ _=>False)
  (hCX:∀ (w:World) (H:Hp) (s:Shared) (e:Value) (s':Shared),CX w [] H s (fun _ _ _=>False) e s'→False) :
  PySem.W.WalkO q loose XP YP l.row.toRowW d [] (fun f vs=>PySem.call f vs):=by
 refine Att.attach_call hn hdf fun w s₀ s₁ mg mb fa o pm cd doc a vs ns G Y ho hd hcd hmg hobj hints hlen hg=> ?_
 have KX:=hY w _ Y
 obtain⟨fd,hb,hF⟩:=F w mg fa _ KX G.T.g hmg
 exact qf6 KX G.T.g G.T.b G.T.builtins G.T.nolimit hg hobj hints (Nat.le_trans hlen hn2) hr hF hb (fun H hO hS=>hsp w H a ns hlen hO hS) fun H e s'=>hCX w H s₁ e s'
end L2
namespace L2
open PySem PySem.Spec PyProof.Rows
def q1m (s:Stmt) (j:Nat):Stmt:=match s with
 | .ClassDef _ _ _ body _ _ _ _ _ _ _=>body.getD j (.Pass ⟨0,0,0,0⟩)
 | _=> .Pass ⟨0,0,0,0⟩
def q0j (s:Stmt):Arguments:=match s with
 | .FunctionDef _ a _ _ _ _ _ _ _ _=>a
 | _=>{ posonlyargs:=[],args:=[],vararg:=none,kwonlyargs:=[],kw_defaults:=[],kwarg:=none,defaults:=[] }
def q0g (s:Stmt):List Stmt:=match s with
 | .FunctionDef _ _ b _ _ _ _ _ _ _=>b
 | _=>[]
def q06 (s:Stmt):Scope:=match s with
 | .FunctionDef _ _ _ _ _ _ sc _ _ _=>sc
 | _=>{ kind:= .function,names:=[],isGenerator:=false,isCoroutine:=false }
abbrev CX0:CXT:=fun _ _ _ _ _ _=>False
abbrev E0:XK:=fun _ _ _=>False
theorem q0z {X:Cx}:q3d CX0 X E0:=fun _ _ _ _ _ _ _ h=>h.elim
structure Fun (K:PySem.W.Frag) (x qual:Str) (st:Stmt) (f:Addr) (fd:FuncData):Prop where
 ex:∃ (oc:Value) (od:Option Addr) (kV doc pm:Value) (an:Option Addr) (cdv ct:Value) (osl:Array (Option Value)),
  fd=PySem.W.fnOf x qual (q0j st) (q0g st) (q06 st) .none kV doc pm an cdv ct∧K.lookup f=some ⟨oc,od,.func fd,osl⟩∧PySem.W.codeIn K cdv qual=true
 kp:PySem.W.keepIn K (.ref f)=true
section
variable {P:Program} {w:World} {K:PySem.W.Frag} {mg:Str→Option Value} {base:Heap}
theorem Fun.ok {x qual:Str} {st:Stmt} {f:Addr} {fd:FuncData} {N ps:List Str} {k:Nat} {sp:Sp} (F:Fun K x qual st f fd) (S:FnScope N ps (q06 st)) (len:∀ vs H Q E,sp vs H Q E→vs.length=ps.length)
  (hbody:∀ (cdv:Value) (A:Around) (outer:List Env) (s:Shared) (H:Hp) (vs:List V) (Q:VK) (E:XK),Room k (A.deeper (envOfC qual (q06 st) s.heap.objs.size f cdv))→sp vs H Q E →
   ∃ t,PSs (cxOf CX0 P w K mg base N qual (q06 st) f cdv A outer s H E).nox (q0g st) t∧t { nx:=fun _ H'=>Q .non H',rt:=Q } (start N vs) H):FnOk P w K mg base CX0 (k + 1) f fd ps sp:=by
 obtain⟨oc,od,kV,doc,pm,an,cdv,ct,osl,rfl,lk,hcd⟩:=F.ex
 refine ql8 lk hcd S len fun A outer s H vs Q E hr hsp=> ?_
 obtain⟨t,h,q⟩:=hbody cdv A outer s H vs Q E hr hsp
 exact⟨t,h.nox,q⟩
theorem Fun.binds {x qual:Str} {st:Stmt} {f:Addr} {fd:FuncData} {ps:List Str} (F:Fun K x qual st f fd)
  (h:∀ (kV doc pm:Value) (an:Option Addr) (cdv ct:Value) (us:List Value),us.length=ps.length→bindArgs (PySem.W.fnOf x qual (q0j st) (q0g st) (q06 st) .none kV doc pm an cdv ct) ⟨us,[]⟩=pure (ps.zip us)):q4g K fd ps []:=by
 obtain⟨oc,od,kV,doc,pm,an,cdv,ct,osl,rfl,lk,hcd⟩:=F.ex
 exact .all (h kV doc pm an cdv ct)
theorem q0v {x qual:Str} {st:Stmt} {f:Addr} {oc:Value} {od an:Option Addr} {osl:Array (Option Value)} {kV doc pm cdv ct:Value} (l:K.lookup f=some ⟨oc,od,.func (PySem.W.fnOf x qual (q0j st) (q0g st) (q06 st) .none kV doc pm an cdv ct),osl⟩)
  (c:PySem.W.codeIn K cdv qual=true) (k:PySem.W.keepIn K (.ref f)=true):Fun K x qual st f (PySem.W.fnOf x qual (q0j st) (q0g st) (q06 st) .none kV doc pm an cdv ct):=⟨⟨oc,od,kV,doc,pm,an,cdv,ct,osl,rfl,l,c⟩,k⟩
end
theorem q3f {A:Around} {k:Nat} (hr:Room k A):A.units + 1 < cLine:=Nat.lt_of_le_of_lt (Nat.add_le_add_left (by decide:1≤64) _) hr.units
theorem q3a {n:Nat} (h:n≤1000):n < sizeLine:=Nat.lt_of_le_of_lt h (by decide)
section
variable {X:Cx}
theorem pv (i:Nat) {x:Str} {pos:Pos} (hN:X.N[i]? = some x:=by rfl) (hv:Vis X.env.scope x:=by first | exact Or.inl rfl | exact Or.inr (Or.inl rfl) | exact Or.inr (Or.inr rfl)) (hd:(x == ("__debug__" : Str))=false:=by decide)
  (hcd:(x == ("__classdict__" : Str))=false:=by decide):PE X (.Name x pos) (tVar i):=qk4 hN hv hd hcd
end
theorem iteF {A B:Prop} (h:B):if false=true then A else B:=by
 rw[if_neg Bool.false_ne_true]
 exact h
theorem iteT {A B:Prop} (h:A):if true=true then A else B:=by
 rw[if_pos rfl]
 exact h
theorem ite2 {c A B:Prop} [Decidable c] (h1:c→A) (h2:¬ c→B):if c then A else B:=by
 by_cases h:c
 ·rw[if_pos h]
  exact h1 h
 ·rw[if_neg h]
  exact h2 h
theorem q3u {c A B:Prop} [Decidable c] (hc:c) (h:B):if (!decide c)=true then A else B:=by
 rw[decide_eq_true hc]
 exact iteF h
def Same (H H':Hp):Prop:=∀ b o,H b=some o→H' b=some o
theorem Same.free {H H':Hp} (e:Same H H') {l:Addr} (h:H' l=Option.none):H l=Option.none:=by
 cases q:H l with
 | none=>rfl
 | some o =>
  rw[e l o q]at h
  cases h
section
variable {κ:Type} [DecidableEq κ]
theorem qf4 {kvs:List (κ×V)} {k:κ} (h:valV kvs k=none):¬ k ∈ kvs.map (·.1):=by
 intro m
 obtain⟨p,hp,e⟩:=List.mem_map.mp m
 have q:(kvs.any fun kv=>decide (kv.1=k))=true:=List.any_eq_true.mpr ⟨p,hp,decide_eq_true e⟩
 rw[q3r,h]at q
 exact absurd q (by simp)
theorem qce:∀ {l:List κ} {k:κ},l.Nodup→¬ k ∈ l→(l ++ [k]).Nodup
 | [],k,_,_=>by simp
 | a :: r,k,h,hk=>by
  obtain⟨h1,h2⟩:=List.nodup_cons.mp h
  show (a :: (r ++ [k])).Nodup
  refine List.nodup_cons.mpr ⟨fun m=> ?_,qce h2 fun m=>hk (List.mem_cons.mpr (Or.inr m))⟩
  rcases List.mem_append.mp m with q | q
  ·exact h1 q
  ·exact hk (List.mem_cons.mpr (Or.inl (List.mem_singleton.mp q).symm))
theorem qcu {kvs:List (κ×V)} {k:κ} (v:V) (hn:(kvs.map (·.1)).Nodup) (h:valV kvs k=none):((putK kvs k v).map (·.1)).Nodup:=by
 rw[qa2 v h,List.map_append]
 exact qce hn (qf4 h)
end
end L2
section
namespace L2
open PySem PySem.Spec PyProof.Rows
section
variable {prog:Program} {w:World} {A:Around} {R:Result→Shared→Prop} {s:Shared}
abbrev FX:Value→Shared→Prop:=fun _ _=>False
theorem q98 {elt target iter:Expr} {ifs:List Expr} {scope:Scope} {pos:Pos} {it acc:Value} {env:Env} (I:Nat→Shared→Prop)
  (turn:∀ n s,I n s→wpAny (model prog w) A (pyNext it) (fun r s₁=>match r with
   | none=>R (.ok .next) s₁
   | some v=>wpAny (model prog w) A (letOwnedTupleGo target it v) (fun _ s₂=>wpAny (model prog w) A (assign target env v) (fun _ s₃ =>
     wpAny (model prog w) A (forIn ifs true fun c r=>if r=true then do let ok ← isTrue c env (eval c env);pure (ForInStep.yield ok) else pure (ForInStep.yield r)) (fun ok s₄ =>
      if ok=true then wpAny (model prog w) A (eval elt env) (fun x s₅ =>
       wpAny (model prog w) A (call (.builtin "list.append") [acc,x]) (fun _ s₆=>∃ m,m < n∧I m s₆) FX s₅) FX s₄
      else ∃ m,m < n∧I m s₄) FX s₃) FX s₂) FX s₁) FX s)
  (n:Nat) (h:I n s) :
  codeAny (model prog w) A (.compLoop (.ListComp elt [⟨target,iter,ifs,0⟩] scope pos) 0 it acc env) R s:=by
 refine codeAny_loop rfl I (fun n s hI=> ?_) n h
 show wpAny _ A ((compTurn (.ListComp elt [⟨target,iter,ifs,0⟩] scope pos) 0 it acc env).onRaise (fun x=>do noteFrame x env;theTreesLotGoes x)) _ _ s
 refine wpAny_noted ?_
 rw[compTurn_list]
 refine wpAny_bind (wpAny_standAt (wpAny_bind (wpAny_mono (turn n s hI) (fun r s₁ h₁=> ?_) fun _ _ f=>f.elim)))
 cases r with
 | none=>exact wpAny_pure h₁
 | some v =>
  refine wpAny_bind (wpAny_mono h₁ (fun _ s₂ h₂=>wpAny_bind (wpAny_mono h₂ (fun _ s₃ h₃=>wpAny_bind (wpAny_mono h₃ (fun ok s₄ h₄=> ?_) fun _ _ f=>f.elim)) fun _ _ f=>f.elim)) fun _ _ f=>f.elim)
  cases ok with
  | false=>exact wpAny_pure ⟨rfl,h₄⟩
  | true =>
   exact wpAny_bind (wpAny_bind (wpAny_mono h₄ (fun x s₅ h₅=>wpAny_bind (wpAny_mono h₅ (fun _ s₆ h₆=>wpAny_pure (wpAny_pure ⟨rfl,h₆⟩)) fun _ _ f=>f.elim)) fun _ _ f=>f.elim))
end
def Cx.blk (X:Cx) (scope:Scope) (cl:List (Str×Addr)) (C:Addr) (NB:List Str) (s:Shared) (H:Hp) (fp:List Addr) (pins:List (Addr×Obj)):Cx :=
 { X with N:=NB,s₀:=s,H₀:=H,env:=compEnvC scope cl C X.env,outer:=X.stack,stack:=X.stack,ex:=fp,fn:=fun x=>scope.names.lookup x == some NameKind.local,pn:=X.pn ++ pins,xe:=FX }
def AllC (e:Env):List (Str×Addr)→Prop
 | []=>True
 | p :: r=>e.cells.lookup p.1=some p.2∧AllC e r
theorem AllC.get {e:Env}:∀ {cl:List (Str×Addr)} {x:Str} {c:Addr},AllC e cl→cl.lookup x=some c→e.cells.lookup x=some c
 | [],_,_,_,h=>by simp at h
 | p :: r,x,c,⟨h1,h2⟩,h=>by
  rw[List.lookup_cons]at h
  cases q:x == p.1 with
  | true =>
   rw[q]at h
   have e1:x=p.1:=beq_iff_eq.mp q
   have e2:p.2=c:=Option.some.inj h
   rw[e1,← e2];exact h1
  | false =>
   rw[q]at h
   exact AllC.get h2 h
def q5w (X:Cx) (scope:Scope) (cl:List (Str×Addr)):List (Option Nat)→List Str→Prop
 | [],_=>True
 | none :: r,_ :: n=>q5w X scope cl r n
 | some i :: r,x :: n=>(X.N[i]? = some x∧(X.env.kindOf x=some .cell∨X.env.kindOf x=some .free)∧((relabel scope X.env).names.lookup x=some .cell∨(relabel scope X.env).names.lookup x=some .free)∧(cl.lookup x).isSome=true)∧q5w X scope cl r n
 | _ :: _,[]=>False
theorem q5w.get {X:Cx} {scope:Scope} {cl:List (Str×Addr)}:∀ {ix:List (Option Nat)} {NB:List Str},q5w X scope cl ix NB→∀ (j i:Nat) (x:Str),ix[j]? = some (some i)→NB[j]? = some x →
  X.N[i]? = some x∧(X.env.kindOf x=some .cell∨X.env.kindOf x=some .free)∧((relabel scope X.env).names.lookup x=some .cell∨(relabel scope X.env).names.lookup x=some .free)∧(cl.lookup x).isSome=true
 | [],_,_,j,i,x,h,_=>by simp at h
 | none :: r,y :: n,h,0,i,x,h1,h2=>by simp at h1
 | none :: r,y :: n,h,j + 1,i,x,h1,h2=>q5w.get (ix:=r) (NB:=n) h j i x (by simpa using h1) (by simpa using h2)
 | some i' :: r,y :: n,h,0,i,x,h1,h2=>by
  simp at h1 h2
  subst h1 h2
  exact h.1
 | some i' :: r,y :: n,h,j + 1,i,x,h1,h2=>q5w.get (ix:=r) (NB:=n) h.2 j i x (by simpa using h1) (by simpa using h2)
 | none :: r,[],h,_,_,_,_,_=>False.elim h
 | some _ :: r,[],h,_,_,_,_,_=>False.elim h
structure CmpScope (X:Cx) (scope:Scope) (cl:List (Str×Addr)) (NB:List Str) (ix:List (Option Nat)):Prop where
 clos:closureFor scope X.env=pure cl
 kind:scope.kind= .function
 nocell:∀ y ∈ scope.names,y.2 ≠ .cell
 names:∀ y ∈ scope.names,y.2= .local→scope.names.lookup y.1=some .local
 cells:AllC X.env cl
 dis:cl.all (fun p=> !(scope.names.lookup p.1 == some NameKind.local))=true
 has:(relabel scope X.env).names.all (fun y=> !(y.2 == .cell || y.2 == .free) || (cl.lookup y.1).isSome)=true
 len:ix.length=NB.length
 free:q5w X scope cl ix NB
def q6v (ix:List (Option Nat)) (σ:St):St:=ix.map fun o=>o.bind fun i=>(σ[i]?).join
theorem q4q {β:Type}:∀ {l:List (Str×β)} {x:Str} {k:β},l.lookup x=some k→(x,k) ∈ l
 | [],_,_,h=>by simp at h
 | p :: r,x,k,h=>by
  rw[List.lookup_cons]at h
  cases q:x == p.1 with
  | true =>
   rw[q]at h
   have e1:x=p.1:=beq_iff_eq.mp q
   have e2:p.2=k:=Option.some.inj h
   rw[e1,← e2];exact List.mem_cons_self
  | false =>
   rw[q]at h
   exact List.mem_cons_of_mem _ (q4q h)
section
variable {X:Cx} {pins:List (Addr×Obj)} {σ:St} {H:Hp} {s:Shared}
theorem Inv.blk {scope:Scope} {cl:List (Str×Addr)} {NB:List Str} {ix:List (Option Nat)} {fp:List Addr} {h1:Heap} {t:Nat} {m:Str→Option Value} {o:Obj}
  (S:CmpScope X scope cl NB ix) (I:Inv X pins σ H s) (hfp:∀ b ∈ fp,FpOk X pins H b) (hob:∀ b ∈ fp,∃ o,s.heap.get? b=some o∧∀ v,o.data ≠ .cell v)
  (hns:h1.Ns s.heap.objs.size m) (sb:Heap.SameBut s.heap.objs.size (s.heap.push o) h1) :
  Inv (X.blk scope cl s.heap.objs.size NB s H fp pins) [] (q6v ix σ) H { s with heap:=h1,toks:=t }:=by
 have kept:∀ b u,s.heap.get? b=some u→h1.get? b=some u:=fun b u e =>
  sb.extBut b u (Nat.ne_of_lt (Heap.lt_size e)) (Heap.get?_push_of_some _ e)
 have cellOf:∀ x c,cl.lookup x=some c→X.env.cells.lookup x=some c:=fun x c e=>S.cells.get e
 refine⟨⟨I.ok.mod,S.kind,I.ok.glob,I.ok.blt,Nat.le_refl _,fun x y c e1 e2=>I.ok.inj x y c (cellOf x c e1) (cellOf y c e2),fun x hx=> ?_,fun x c hf e=> ?_,I.ok.hd,I.ok.frames,.inl rfl,fun b hb=>⟨?_,fun x c e=> ?_⟩,I.bs,Nat.le_trans I.ok.bsz I.sz,fun b ob e hb=> ?_,fun b hb hz=> ?_,I.stack,I.stkFree⟩,
  rfl,I.bare,Un.kept kept,⟨m,hns,fun i x v e1 e2 e3=> ?_⟩,fun x c e=> ?_,I.hok.fresh (Nat.le_refl _),fun x c e=>I.freeC x c (cellOf x c e),fun p hp=> ?_,I.hok.kept kept,by unfold q6v;rw[List.length_map];exact S.len⟩
 ·-- has
  have hx':(relabel scope X.env).names.lookup x=some .cell∨(relabel scope X.env).names.lookup x=some .free:=hx
  have key:∀ k:NameKind,(k == .cell || k == .free)=true→(relabel scope X.env).names.lookup x=some k→∃ c,cl.lookup x=some c:=fun k hk e=>by
   have q:=List.all_eq_true.mp S.has (x,k) (q4q e)
   have q':(!(k == .cell || k == .free) || (cl.lookup x).isSome)=true:=q
   rw[hk]at q'
   exact Option.isSome_iff_exists.mp (by simpa using q')
  rcases hx' with z | z
  ·exact key _ rfl z
  ·exact key _ rfl z
 ·-- cab
  have q:=List.all_eq_true.mp S.dis (x,c) (q4q e)
  have hf':(scope.names.lookup x == some NameKind.local)=true:=hf
  have q':(!(scope.names.lookup x == some NameKind.local))=true:=q
  rw[hf']at q'
  cases q'
 ·-- b ≠ C
  obtain⟨o',e,_⟩:=hob b hb
  exact Nat.ne_of_lt (Heap.lt_size e)
 ·exact(hfp b hb).2.2.2.2.1 x c (cellOf x c e)
 ·-- noex
  rcases (hfp b hb).2.2.2.1 with z | z
  ·exact I.ok.noex b ob e z
  ·exact absurd (Nat.lt_of_lt_of_le (Heap.lt_size e) (Nat.le_trans I.ok.bsz z)) (Nat.lt_irrefl _)
 ·-- exfs
  rcases List.mem_cons.mp (I.stkSub b hz) with z | z
  ·exact(hfp b hb).2.1 z
  ·exact(hfp b hb).2.2.1 z
 ·-- loc
  have e2':(q6v ix σ)[i]? = some (some v):=e2
  unfold q6v at e2'
  rw[List.getElem?_map]at e2'
  cases q:ix[i]? with
  | none=>rw[q]at e2';cases e2'
  | some oi =>
   rw[q]at e2'
   cases oi with
   | none=>cases e2'
   | some j =>
    have e4:(σ[j]?).join=some v:=Option.some.inj e2'
    have e5:σ[j]? = some (some v):=by
     cases z:σ[j]? with
     | none=>rw[z]at e4;cases e4
     | some y=>rw[z]at e4;have:y=some v:=e4;rw[this]
    obtain⟨hN,hk,hk',hc⟩:=S.free.get i j x q e1
    obtain⟨m0,hn0,hl0⟩:=I.loc
    have hv:Vis X.env.scope x:= .inr hk
    obtain⟨u,r,l⟩:=hl0 j x v hN e5 hv
    refine⟨u,r,.inr ⟨hk',?_⟩⟩
    obtain⟨c,hc⟩:=Option.isSome_iff_exists.mp hc
    refine⟨c,hc,?_⟩
    have hc':=cellOf x c hc
    rcases l with ⟨k,_⟩ | ⟨_,c2,ec,oc,hoc,hd⟩
    ·rcases hk with z | z <;> (rw[z]at k;cases k)
    ·rw[hc']at ec
     cases ec
     exact⟨oc,kept _ _ hoc,hd⟩
 ·obtain⟨v,oc,hoc,hd⟩:=I.cell x c (cellOf x c e)
  exact⟨v,oc,kept _ _ hoc,hd⟩
 ·have hp':p ∈ X.pn ++ pins:=by
   have:p ∈ (X.pn ++ pins) ++ []:=hp
   simpa using this
  obtain⟨e,n,ne,nf,d⟩:=I.pin p hp'
  refine⟨kept _ _ e,n,Nat.ne_of_lt (Heap.lt_size e),fun z=> ?_,d⟩
  rcases List.mem_cons.mp (I.stkSub p.1 z) with q | q
  ·exact ne q
  ·exact nf q
theorem Inv.unblk {scope:Scope} {cl:List (Str×Addr)} {C:Addr} {NB:List Str} {fp:List Addr} {pins':List (Addr×Obj)} {σ':St} {H':Hp} {s':Shared} (I:Inv X pins σ H s) (hfp:∀ b ∈ fp,FpOk X pins H b)
  (I':Inv (X.blk scope cl C NB s H fp pins) pins' σ' H' s'):Inv X pins σ H' s' :=
 I.call' I'.os I'.base I'.hok I'.bare fun b hb=>⟨(hfp b hb).2.2.2.1,(hfp b hb).2.1,(hfp b hb).2.2.2.2.1,(hfp b hb).2.2.2.2.2⟩
end
def qax (wi:TI) (ix:List (Option Nat)) (g:TG) (tc:TT) (te:TE):TE:=fun σ H Q=>wi σ H fun J H1=>∀ D,H1 D=none→∃ W:Nat→Nat→St→List V→Hp→Prop,
 (∃ m,W 0 m (q6v ix σ) [] (upd H1 D (.lst [])))∧∀ i m σ' ys H,W i m σ' ys H→H D=some (.lst ys) ∧
  ((J.stop i H∧Q (.ref D) H)∨(J.go i H∧∃ N:St→List V→Hp→Prop,(∀ σ2 ys2 H2,N σ2 ys2 H2→∃ m',m' < m∧W (i + 1) m' σ2 ys2 H2)∧∀ x H',J.yld i H x H'→g x σ' H' fun σ2 H2=>tc σ2 H2 fun b H3 =>
   if b=true then te σ2 H3 fun y H4=>H4 D=some (.lst ys)∧ys.length < sizeLine∧N σ2 (ys ++ [y]) (upd H4 D (.lst (ys ++ [y])))
   else N σ2 ys H3))
def PCs (X:Cx) (ifs:List Expr) (t:TT):Prop :=
 ∀ (pins:List (Addr×Obj)) (s:Shared) (σ:St) (H:Hp) (Q:Bool→Hp→Prop),Inv X pins σ H s→t σ H Q →
  wpAny (model X.prog X.w) X.A (forIn ifs true fun c r=>if r=true then do let ok ← isTrue c X.env (eval c X.env);pure (ForInStep.yield ok) else pure (ForInStep.yield r)) (TP X pins σ Q) X.xe s
def qcy:TT:=fun _ H Q=>Q true H
theorem q3b {X:Cx}:PCs X [] qcy:=fun pins s σ H Q I h=>wpAny_tests_nil ⟨H,I,h⟩
theorem qcb {X:Cx} {c:Expr} {t:TT} (h:PT X c t):PCs X [c] t:=fun pins s σ H Q I hq=>wpAny_tests_one (h pins s σ H Q I hq)
theorem q9z {X:Cx} {elt target iter:Expr} {ifs:List Expr} {scope:Scope} {cl:List (Str×Addr)} {pos:Pos} {NB:List Str} {ix:List (Option Nat)} {g:TG} {tc:TT} {te:TE} {pins:List (Addr×Obj)} {σ:St} {H2:Hp} {s2:Shared}
  {it:Addr} {fp:List Addr} {tn:Nat→Heap→Prop} {J:It} {Q:VK} {RR:Value→Addr→Result→Shared→Prop} {E:Value→Shared→Prop}
  (hc:X.calm=true) (S:CmpScope X scope cl NB ix)
  (hg:∀ C s H fp pins,PG (X.blk scope cl C NB s H fp pins) target g) (ht:∀ C s H fp pins,PCs (X.blk scope cl C NB s H fp pins) ifs tc) (he:∀ C s H fp pins,PE (X.blk scope cl C NB s H fp pins) elt te)
  (I2:Inv X pins σ H2 s2) (T:Turn X.prog X.w X.K target J fp it tn) (st2:tn 0 s2.heap) (f2:∀ b ∈ fp,FpOk X pins H2 b)
  (hr:∀ D,H2 D=none→∃ W:Nat→Nat→St→List V→Hp→Prop,
   (∃ m,W 0 m (q6v ix σ) [] (upd H2 D (.lst [])))∧∀ i m σ' ys H,W i m σ' ys H→H D=some (.lst ys) ∧
    ((J.stop i H∧Q (.ref D) H)∨(J.go i H∧∃ N:St→List V→Hp→Prop,(∀ σ2 ys2 H2,N σ2 ys2 H2→∃ m',m' < m∧W (i + 1) m' σ2 ys2 H2)∧∀ x H',J.yld i H x H'→g x σ' H' fun σ2 H2=>tc σ2 H2 fun b H3 =>
     if b=true then te σ2 H3 fun y H4=>H4 D=some (.lst ys)∧ys.length < sizeLine∧N σ2 (ys ++ [y]) (upd H4 D (.lst (ys ++ [y])))
     else N σ2 ys H3)))
  (hRR:∀ D C H' s' m,Inv X pins σ H' s'→s'.heap.Ns C m→H' C=none→X.s₀.heap.objs.size≤C→C ≠ X.env.locals→(∀ x c,X.env.cells.lookup x=some c→c ≠ C)→(∀ p ∈ X.pn ++ pins,p.1 ≠ C)→Q (.ref D) H'→RR (.ref D) C (.ok .next) s') :
  wpAny (model X.prog X.w) X.A (newList []) (fun acc s₃=>wpAny (model X.prog X.w) X.A (newFunctionEnv scope X.env.globals cl [] X.env.qual none .none (some X.env)) (fun cenv s₄ =>
   codeAny (model X.prog X.w) X.A (.compStart (.ListComp elt [⟨target,iter,ifs,0⟩] scope pos) 0 (.ref it) acc { cenv with scope:=relabel scope X.env }) (RR acc cenv.locals) s₄) E s₃) E s2:=by
 refine wpAny_newObj_type (wpAny_newFunctionEnv S.nocell (by intro y hy;simp at hy) (fun h₁ hns₁ hsb₁=> ?_) S.kind)
 dsimp only at hns₁ hsb₁ ⊢
 have hD:H2 s2.heap.objs.size=none:=I2.fresh
 have I3:Inv X pins σ (upd H2 s2.heap.objs.size (.lst [])) { s2 with heap:=s2.heap.push { cls:= .type "list",dict:=none,data:= .seq ([]:List Value).toArray },toks:=s2.toks } :=
  I2.lnew (ys:=[]) (its:=[]) .nil (Nat.zero_le _)
 generalize hs3:({ s2 with heap:=s2.heap.push { cls:= .type "list",dict:=none,data:= .seq ([]:List Value).toArray },toks:=s2.toks }:Shared)=s3 at I3
 have eh:s3.heap=s2.heap.push { cls:= .type "list",dict:=none,data:= .seq ([]:List Value).toArray }:=by rw[← hs3]
 have f3:∀ b ∈ fp,FpOk X pins (upd H2 s2.heap.objs.size (.lst [])) b:=fun b hb=>by
  obtain⟨o,e,_⟩:=T.obj _ _ st2 b hb
  exact⟨by rw[q0b (Nat.ne_of_lt (Heap.lt_size e))];exact(f2 b hb).1,(f2 b hb).2⟩
 have old3:∀ b o,s2.heap.get? b=some o→s3.heap.get? b=some o:=fun b o e=>by rw[eh];exact Heap.get?_push_of_some _ e
 have st3:tn 0 s3.heap:=T.keep _ _ _ st2 fun b _ o e=>old3 b o e
 rw[← eh]at hns₁ hsb₁ ⊢
 have I4:=Inv.blk (t:=s2.toks + ([]:List (Str×Value)).length) S I3 f3 (fun b hb=>T.obj _ _ st3 b hb) hns₁ hsb₁
 have e4:({ s3 with heap:=h₁,toks:=s2.toks + ([]:List (Str×Value)).length }:Shared)={ s2 with heap:=h₁,toks:=s2.toks + ([]:List (Str×Value)).length }:=by rw[← hs3]
 rw[e4]at I4
 have st4:tn 0 h₁:=T.keep _ _ _ st3 fun b _ o e=>hsb₁.extBut b o (Nat.ne_of_lt (Heap.lt_size e)) (Heap.get?_push_of_some _ e)
 obtain⟨W,⟨m0,w0⟩,turn⟩:=hr _ hD
 have stat:∀ {H':Hp},(∀ b ∈ fp,H' b=none)→∀ b ∈ fp,FpOk (X.blk scope cl s3.heap.objs.size NB s3 (upd H2 s2.heap.objs.size (.lst [])) fp pins) [] H' b:=fun hn b hb=>by
  obtain⟨o,e,_⟩:=T.obj _ _ st3 b hb
  refine⟨hn b hb,Nat.ne_of_lt (Heap.lt_size e),fun z=> ?_,.inl hb,fun x c q=>(f3 b hb).2.2.2.2.1 x c (S.cells.get q),fun p hp=>(f3 b hb).2.2.2.2.2 p ?_⟩
  ·rcases List.mem_cons.mp (I3.stkSub b z) with q | q
   ·exact(f3 b hb).2.1 q
   ·exact(f3 b hb).2.2.1 q
  ·have:p ∈ (X.pn ++ pins) ++ []:=hp
   simpa using this
 have loop:codeAny (model X.prog X.w) X.A (.compLoop (.ListComp elt [⟨target,iter,ifs,0⟩] scope pos) 0 (.ref it) (.ref s2.heap.objs.size) (compEnvC scope cl s3.heap.objs.size X.env))
   (RR (.ref s2.heap.objs.size) s3.heap.objs.size) { s2 with heap:=h₁,toks:=s2.toks + ([]:List (Str×Value)).length }:=by
  refine q98 (fun n s'=>∃ i σ' ys H',Inv (X.blk scope cl s3.heap.objs.size NB s3 (upd H2 s2.heap.objs.size (.lst [])) fp pins) [] σ' H' s'∧tn i s'.heap∧(∀ b ∈ fp,H' b=none)∧W i n σ' ys H') ?_ m0 ⟨0,_,[],_,I4,st4,fun b hb=>(f3 b hb).1,w0⟩
  rintro n s5 ⟨i,σ5,ys,H5,I5,st5,fr5,w5⟩
  obtain⟨hD5,(⟨stop,qn⟩ | ⟨go,N,hN,step⟩)⟩:=turn i n σ5 ys H5 w5
  ·refine thn (T.done (X.blk scope cl s3.heap.objs.size NB s3 (upd H2 s2.heap.objs.size (.lst [])) fp pins) rfl rfl rfl hc i [] s5 σ5 H5 FX I5 (stat fr5) st5 stop) fun r s6 ⟨hr6,I6⟩=> ?_
   subst hr6
   obtain⟨m6,hn6,_⟩:=I6.loc
   refine hRR _ _ H5 s6 m6 (I3.unblk f3 I6) hn6 I6.free I3.sz (fun z=> ?_) (fun x c e z=> ?_) (fun p hp z=> ?_) qn
   ·have:=I3.lt
    rw[← z]at this
    exact absurd this (Nat.lt_irrefl _)
   ·obtain⟨v,oc,hoc,_⟩:=I3.cell x c e
    have:=Heap.lt_size hoc
    rw[z]at this
    exact absurd this (Nat.lt_irrefl _)
   ·have:=Heap.lt_size (I3.pin p hp).1
    rw[z]at this
    exact absurd this (Nat.lt_irrefl _)
  ·refine thn (T.item (X.blk scope cl s3.heap.objs.size NB s3 (upd H2 s2.heap.objs.size (.lst [])) fp pins) rfl rfl rfl hc i [] s5 σ5 H5 FX I5 (stat fr5) st5 go) fun r s6 ⟨u,hr6,h6⟩=> ?_
   subst hr6
   refine thn h6 fun _ s7 ⟨x,H7,I7,r7,y7,st7,fr7⟩=> ?_
   have I7':=I7.pinned (stat fr7) (T.obj _ _ st7)
   refine thn (hg _ _ _ _ _ _ s7 σ5 H7 x u _ I7' r7 (step x H7 y7)) fun _ s8 ⟨σ8,H8,I8,q8⟩=> ?_
   refine thn (ht _ _ _ _ _ _ s8 σ8 H8 _ I8 q8) fun b s9 ⟨H9,I9,q9⟩=> ?_
   have fin:∀ {s':Shared} {H':Hp},Inv (X.blk scope cl s3.heap.objs.size NB s3 (upd H2 s2.heap.objs.size (.lst [])) fp pins) ([] ++ q6e fp s7.heap) σ8 H' s'→tn (i + 1) s'.heap∧∀ b ∈ fp,H' b=none:=fun {s' H'} I'=>by
    refine⟨T.keep _ _ _ st7 fun b hb o e=>(I'.pin (b,o) (List.mem_append_right _ (List.mem_append_right _ (q2n hb e)))).1,fun b hb=> ?_⟩
    obtain⟨o,e,d⟩:=T.obj _ _ st7 b hb
    exact(I'.pin (b,o) (List.mem_append_right _ (List.mem_append_right _ (q2n hb e)))).2.1
   cases b with
   | false =>
    obtain⟨m',hm,w9⟩:=hN σ8 ys H9 (show N σ8 ys H9 from q9)
    obtain⟨st9,fr9⟩:=fin I9
    exact⟨m',hm,i + 1,σ8,ys,H9,I9.unpinned,st9,fr9,w9⟩
   | true =>
    refine thn (he _ _ _ _ _ _ s9 σ8 H9 _ I9 q9) fun y s10 ⟨vy,H10,I10,r10,hD10,hl10,n10⟩=> ?_
    obtain⟨m',hm,w10⟩:=hN _ _ _ n10
    refine thn (q1o _ s10 σ8 H10 (.ref s2.heap.objs.size) [vy] (.ref s2.heap.objs.size) [y] (fun v H'=>v= .non∧H'=upd H10 s2.heap.objs.size (.lst (ys ++ [vy]))) I10 rfl (.cons r10 .nil) ⟨_,ys,vy,rfl,rfl,hD10,hl10,rfl,rfl⟩) fun _ s11 ⟨_,H11,I11,_,_,e11⟩=> ?_
    subst e11
    obtain⟨st11,fr11⟩:=fin I11
    exact⟨m',hm,i + 1,σ8,ys ++ [vy],_,I11.unpinned,st11,fr11,w10⟩
 exact codeAny_compStart_list loop (T.self _ 0 _ _ _ st4 loop)
section
variable {X:Cx} {elt target iter:Expr} {ifs:List Expr} {scope:Scope} {cl:List (Str×Addr)} {pos spos py:Pos} {NB:List Str} {ix:List (Option Nat)} {wi:TI} {g:TG} {tc:TT} {te:TE}
theorem q37 (hc:X.calm=true) (S:CmpScope X scope cl NB ix) (hi:PI X target iter wi)
  (hg:∀ C s H fp pins,PG (X.blk scope cl C NB s H fp pins) target g) (ht:∀ C s H fp pins,PCs (X.blk scope cl C NB s H fp pins) ifs tc) (he:∀ C s H fp pins,PE (X.blk scope cl C NB s H fp pins) elt te)
  (hs:∀ x,foldedSetIterable iter X.env x=pure x:=by intro _;rfl):PE X (.ListComp elt [⟨target,iter,ifs,0⟩] scope pos) (qax wi ix g tc te):=by
 intro pins s σ H Q I h
 rw[eval_ListComp]
 refine wpAny_comprehension_free (use:=none) rfl hs S.clos S.kind S.names (thn (hi pins s σ H _ I h) fun xv s1 h1=>thn h1 fun itv s2 h2=> ?_)
 obtain⟨it,fp,tn,J,H2,e,I2,T,st2,f2,hr⟩:=h2
 subst e
 refine q9z (Q:=Q) (RR:=fun acc C=>compPost (model X.prog X.w) X.A X.xe none (EP X pins σ Q) acc C) hc S hg ht he I2 T st2 f2 hr ?_
 intro D C H' s' m I' hn hC h0 hL hcl hp q
 exact⟨m,hn,fun h' sb=>⟨.ref D,H',I'.turned (t':=s'.toks) (fun b o hb e=>(sb.2 b hb).trans e) hC (Ne.symm (Ne.symm hL)) (.inr h0) hcl hp,rfl,q⟩⟩
def q9y (i:Nat) (t:TE):TS:=fun D σ H=>t σ H fun x H1=>D.nx (σ.set i (some x)) H1
theorem qbn {i:Nat} {y:Str} (hc:X.calm=true) (hN:X.N.Nodup) (hi':X.N[i]? = some y) (hy:Loc X.env.scope y) (S:CmpScope X scope cl NB ix) (hi:PI X target iter wi)
  (hg:∀ C s H fp pins,PG (X.blk scope cl C NB s H fp pins) target g) (ht:∀ C s H fp pins,PCs (X.blk scope cl C NB s H fp pins) ifs tc) (he:∀ C s H fp pins,PE (X.blk scope cl C NB s H fp pins) elt te)
  (hsw:swapsWith (.ListComp elt [⟨target,iter,ifs,0⟩] scope pos) (some (.Name y py)) spos.line X.env=pure true:=by rfl)
  (hs:∀ x,foldedSetIterable iter X.env x=pure x:=by intro _;rfl) (hf:X.fn y=true∨X.env.scope.names.lookup y=some .local:=by first | exact .inl rfl | exact .inr rfl | assumption) :
  PS X (.Assign [.Name y py] (.ListComp elt [⟨target,iter,ifs,0⟩] scope pos) spos) (q9y i (qax wi ix g tc te)):=by
 intro pins s σ H D I h
 rw[exec_Assign_Name_used _ _ _ _ hsw]
 refine wpAny_bind (wpAny_standAt (wpAny_bind ?_))
 show wpAny _ X.A (do let _ ← comprehension (.ListComp elt [⟨target,iter,ifs,0⟩] scope pos) scope X.env _ (newList []) false (eval iter X.env) (some (assign (.Name y py) X.env))) _ _ s
 refine wpAny_bind (wpAny_mono (wpAny_comprehension_free (use:=some (assign (.Name y py) X.env)) (Q:=fun _ s'=>SP X pins D .next s') rfl hs S.clos S.kind S.names
  (thn (hi pins s σ H _ I h) fun xv s1 h1=>thn h1 fun itv s2 h2=> ?_)) (fun _ s' hq=>wpAny_pure (wpAny_pure hq)) fun _ _ e=>e)
 obtain⟨it,fp,tn,J,H2,e,I2,T,st2,f2,hr⟩:=h2
 subst e
 refine q9z (Q:=fun x H1=>D.nx (σ.set i (some x)) H1) (RR:=fun acc C=>compPost (model X.prog X.w) X.A X.xe (some (assign (.Name y py) X.env)) (fun _ s'=>SP X pins D .next s') acc C) hc S hg ht he I2 T st2 f2 hr ?_
 intro Dd C H' s' m I' hn hC h0 hL hcl hp q
 show wpAny _ X.A (assign (.Name y py) X.env (.ref Dd)) _ _ _
 refine wpAny_assign_Name (q8o (v:= .ref Dd) I' hN hi' hy rfl (fun s2 I2 hsb=> ?_) hf)
 obtain⟨a,sb2,ha⟩:=hsb
 have hCa:C ≠ a:=by
  rcases ha with z | z
  ·rw[z];exact hL
  ·exact Ne.symm (hcl _ _ z)
 refine⟨m,hn.sameBut sb2 hCa,fun h' sb=> ?_⟩
 exact⟨_,H',I2.turned (t':=s2.toks) (fun b o hb e=>(sb.2 b hb).trans e) hC hL (.inr h0) hcl hp,q⟩
end
theorem q2r {K:PySem.W.Frag} {a:Addr} {xs:List V} {g:TG} {tc:TT} {te:TE} {σ0:St} {Hs:Hp} {D:Addr} {Q:VK} (Pv:Nat→St→List V→Hp→Prop) (h0:Pv 0 σ0 [] (upd Hs D (.lst [])))
  (hl:∀ i σ ys H,i≤xs.length→Pv i σ ys H→SqL K H a xs∧H D=some (.lst ys))
  (hs:∀ i x σ ys H,xs[i]? = some x→Pv i σ ys H→g x σ H fun σ2 H2=>tc σ2 H2 fun b H3 =>
   if b=true then te σ2 H3 fun y H4=>H4 D=some (.lst ys)∧ys.length < sizeLine∧Pv (i + 1) σ2 (ys ++ [y]) (upd H4 D (.lst (ys ++ [y]))) else Pv (i + 1) σ2 ys H3)
  (hd:∀ σ ys H,Pv xs.length σ ys H→Q (.ref D) H) :
  ∃ W:Nat→Nat→St→List V→Hp→Prop,(∃ m,W 0 m σ0 [] (upd Hs D (.lst [])))∧∀ i m σ' ys H,W i m σ' ys H→H D=some (.lst ys) ∧
   (((Itl K a).stop i H∧Q (.ref D) H)∨((Itl K a).go i H∧∃ N:St→List V→Hp→Prop,(∀ σ2 ys2 H2,N σ2 ys2 H2→∃ m',m' < m∧W (i + 1) m' σ2 ys2 H2)∧∀ x H',(Itl K a).yld i H x H'→g x σ' H' fun σ2 H2=>tc σ2 H2 fun b H3 =>
    if b=true then te σ2 H3 fun y H4=>H4 D=some (.lst ys)∧ys.length < sizeLine∧N σ2 (ys ++ [y]) (upd H4 D (.lst (ys ++ [y]))) else N σ2 ys H3)):=by
 refine⟨fun i m σ ys H=>i≤xs.length∧m=xs.length - i∧Pv i σ ys H,⟨_,Nat.zero_le _,rfl,h0⟩,?_⟩
 rintro i m σ' ys H ⟨hi,rfl,hp⟩
 obtain⟨hq,hD⟩:=hl i σ' ys H hi hp
 refine⟨hD,?_⟩
 by_cases e:i < xs.length
 ·refine .inr ⟨⟨xs,xs[i],hq,List.getElem?_eq_getElem e⟩,Pv (i + 1),fun σ2 ys2 H2 n=>⟨xs.length - (i + 1),by omega,e,rfl,n⟩,?_⟩
  rintro x H' ⟨rfl,hx⟩
  exact hs i x σ' ys H' (hx xs hq) hp
 ·have ei:i=xs.length:=by omega
  subst ei
  exact .inl ⟨⟨xs,hq,Nat.le_refl _⟩,hd σ' ys H hp⟩
end L2
end
section
namespace L2
open PySem PySem.Spec PyProof.Rows
def kitB (a b:String):Option Bool:=if (Value.type a == Value.type b)=true then some true else if PySem.W.kitMeta b=true then (PySem.fastBuiltinMro a).map (·.contains (Value.type b)) else none
theorem q0y {K:PySem.W.Frag} {a b:String} {v:Bool} (h:kitB a b=some v):PySem.W.kitOne K (.type a) (.type b)=some v:=h
section
variable {X:Cx}
theorem q0t:q44 X (.builtin "isinstance") (fun xs H Q=>∃ x T t b,xs=[x,.ty T]∧TyOf X.K H x t∧PySem.W.kitOne X.K t (.type T)=some b∧Q (.bl b) H):=by
 intro pins s σ H xs us Q I r h
 obtain⟨x,T,t,b,rfl,ty,e,q⟩:=h
 obtain⟨u,w',rfl,ru,rw⟩:=qg5 r
 obtain rfl:w'=Value.type T:=rw
 exact qck I ru ty e fun tk=>⟨.bl b,H,I.tok tk,rfl,q⟩
theorem q80:q44 X (.type "dict") (fun xs H Q=>∃ a kvs,xs=[V.ref a]∧Rd H a (.dK kvs)∧∀ p,H p=none→Q (.ref p) (upd H p (.dK kvs))):=by
 intro pins s σ H xs us Q I r h
 obtain⟨a,kvs,rfl,ha,q⟩:=h
 obtain⟨u,rfl,ru⟩:=q5z r
 obtain rfl:u=Value.ref a:=ru
 exact qfy I ha fun p s' hp I'=>⟨.ref p,_,I',rfl,q p hp⟩
end
inductive EqH (K:PySem.W.Frag) (H:Hp):Nat→V→V→Bool→Prop
 | flat {n:Nat} {x y:V} (fx:q7k x=true) (fy:q7k y=true):EqH K H n x y (eqV x y)
 | same {n:Nat} (a:Addr):EqH K H n (.ref a) (.ref a) true
 | lst {n:Nat} {a b:Addr} {xs ys:List V} {e:Nat→Bool} (ne:a ≠ b) (ha:SqL K H a xs) (hb:SqL K H b ys) (hl:xs.length=ys.length)
   (h:∀ (j:Nat) x y,xs[j]? = some x→ys[j]? = some y→EqH K H n x y (e j)):EqH K H (n + 1) (.ref a) (.ref b) ((List.range xs.length).all e)
 | lstN {n:Nat} {a b:Addr} {xs ys:List V} (ne:a ≠ b) (ha:SqL K H a xs) (hb:SqL K H b ys) (hl:xs.length ≠ ys.length):EqH K H n (.ref a) (.ref b) false
 | tup {n:Nat} {a b:Addr} {xs ys:List V} {e:Nat→Bool} (ne:a ≠ b) (ha:SqT K H a xs) (hb:SqT K H b ys)
   (h:∀ (j:Nat) x y,xs[j]? = some x→ys[j]? = some y→EqH K H n x y (e j)):EqH K H (n + 1) (.ref a) (.ref b) ((List.range (min xs.length ys.length)).all e && xs.length == ys.length)
section
variable {X:Cx} {pins:List (Addr×Obj)} {σ:St} {H:Hp} {s:Shared}
theorem q4n {xs:List V} {its:List Value} (r:Vals xs its) {j:Nat} (h:j < its.length):∃ x,xs[j]? = some x∧RelV x its[j]:=by
 have hx:j < xs.length:=by rw[r.length];exact h
 obtain⟨u,e,q⟩:=r.get (List.getElem?_eq_getElem hx)
 refine⟨_,List.getElem?_eq_getElem hx,?_⟩
 rw[List.getElem?_eq_getElem h]at e
 cases e
 exact q
theorem EqH.at (I:Inv X pins σ H s) {n:Nat} {x y:V} {r:Bool} (h:EqH X.K H n x y r):∀ (A:Around) (u v:Value),A.units + n < cLine→RelV x u→RelV y v→SeqAt.EqAt A s u v r:=by
 induction h with
 | flat fx fy=>intro A u v _ ru rv;exact qgi ru rv fx fy
 | same a =>
  intro A u v _ ru rv
  obtain rfl:u=Value.ref a:=ru
  obtain rfl:v=Value.ref a:=rv
  exact SeqAt.EqAt.same _
 | @lst n a b xs ys e ne ha hb hl h ih =>
  intro A u v hu ru rv
  obtain rfl:u=Value.ref a:=ru
  obtain rfl:v=Value.ref b:=rv
  obtain⟨ia,ra,pa,_⟩:=I.list ha
  obtain⟨ib,rb,pb,_⟩:=I.list hb
  have l1:=ra.length
  have l2:=rb.length
  have q:=SeqAt.RcAt.lists (A:=A) (e:=e) pa.isList pb.isList (by simp;omega) (by omega) fun j h1 h2=>by
   have h1':j < ia.length:=by simpa using h1
   have h2':j < ib.length:=by simpa using h2
   obtain⟨x,ex,rx⟩:=q4n ra h1'
   obtain⟨y,ey,ry⟩:=q4n rb h2'
   have:=ih j x y ex ey A.in1 ia[j] ib[j] (by show A.units + 1 + n < cLine;omega) rx ry
   simpa using this
  have e1:ia.toArray.size=xs.length:=by simp;omega
  rw[e1]at q
  exact SeqAt.EqAt.of_refs ne q
 | @lstN n a b xs ys ne ha hb hl =>
  intro A u v hu ru rv
  obtain rfl:u=Value.ref a:=ru
  obtain rfl:v=Value.ref b:=rv
  obtain⟨ia,ra,pa,_⟩:=I.list ha
  obtain⟨ib,rb,pb,_⟩:=I.list hb
  have l1:=ra.length
  have l2:=rb.length
  exact SeqAt.EqAt.of_refs ne (SeqAt.RcAt.lists_lengths pa.isList pb.isList (by simp;omega) (by omega))
 | @tup n a b xs ys e ne ha hb h ih =>
  intro A u v hu ru rv
  obtain rfl:u=Value.ref a:=ru
  obtain rfl:v=Value.ref b:=rv
  obtain⟨ia,ra,pa,_⟩:=I.tuple ha
  obtain⟨ib,rb,pb,_⟩:=I.tuple hb
  have l1:=ra.length
  have l2:=rb.length
  have q:=SeqAt.RcAt.tuples (A:=A) (e:=e) (show s.heap.IsTuple a ia.toArray from pa) (show s.heap.IsTuple b ib.toArray from pb) (by omega) fun j h1 h2=>by
   have h1':j < ia.length:=by simpa using h1
   have h2':j < ib.length:=by simpa using h2
   obtain⟨x,ex,rx⟩:=q4n ra h1'
   obtain⟨y,ey,ry⟩:=q4n rb h2'
   have:=ih j x y ex ey A.in1 ia[j] ib[j] (by show A.units + 1 + n < cLine;omega) rx ry
   simpa using this
  have e1:ia.toArray.size=xs.length:=by simp;omega
  have e2:ib.toArray.size=ys.length:=by simp;omega
  rw[e1,e2]at q
  exact SeqAt.EqAt.of_refs ne q
end
section
variable {X:Cx}
def rEqL (K:PySem.W.Frag) (neg:Bool):R2:=fun x y H Q=>∃ a b xs ys e,x= .ref a∧y= .ref b∧SqL K H a xs∧SqL K H b ys∧xs.length=ys.length∧(∀ (j:Nat) x y,xs[j]? = some x→ys[j]? = some y→EqH K H 60 x y (e j)) ∧
 Q (.bl (if neg then !(List.range xs.length).all e else (List.range xs.length).all e)) H
def rEqT (K:PySem.W.Frag) (neg:Bool):R2:=fun x y H Q=>∃ a b xs ys e,x= .ref a∧y= .ref b∧SqT K H a xs∧SqT K H b ys∧(∀ (j:Nat) x y,xs[j]? = some x→ys[j]? = some y→EqH K H 60 x y (e j)) ∧
 Q (.bl (if neg then !((List.range (min xs.length ys.length)).all e && xs.length == ys.length) else ((List.range (min xs.length ys.length)).all e && xs.length == ys.length))) H
theorem qcw {pins:List (Addr×Obj)} {σ:St} {H:Hp} {s:Shared} {A:Around} (I:Inv X pins σ H s) (hu:A.units + 64 < cLine) {xs ys:List V} {e:Nat→Bool} (h:∀ (j:Nat) x y,xs[j]? = some x→ys[j]? = some y→EqH X.K H 60 x y (e j))
  {ia ib:List Value} (ra:Vals xs ia) (rb:Vals ys ib):∀ j (h1:j < ia.toArray.size) (h2:j < ib.toArray.size),SeqAt.EqAt A.in1 s ia.toArray[j] ib.toArray[j] (e j):=fun j h1 h2=>by
 have h1':j < ia.length:=by simpa using h1
 have h2':j < ib.length:=by simpa using h2
 obtain⟨x,ex,rx⟩:=q4n ra h1'
 obtain⟨y,ey,ry⟩:=q4n rb h2'
 have:=(h j x y ex ey).at I A.in1 ia[j] ib[j] (by show A.units + 1 + 60 < cLine;omega) rx ry
 simpa using this
theorem qks (hu:X.A.units + 64 < cLine):OpR X (compareOp .Eq) (rEqL X.K false):=by
 intro pins s σ H x y v u Q I rx ry h
 obtain⟨a,b,xs,ys,e,rfl,rfl,ha,hb,hl,h,q⟩:=h
 obtain rfl:v=Value.ref a:=rx
 obtain rfl:u=Value.ref b:=ry
 obtain⟨ia,ra,pa,_⟩:=I.list ha
 obtain⟨ib,rb,pb,_⟩:=I.list hb
 have l1:=ra.length
 have l2:=rb.length
 have e1:ia.toArray.size=xs.length:=by simp;omega
 exact SeqAt.RcAt.lists (A:=X.A) (e:=e) pa.isList pb.isList (by simp;omega) (by omega) (qcw I hu h ra rb) _ _ _ _ ⟨_,H,I,(by rw[e1];rfl),q⟩
theorem qdu (hu:X.A.units + 64 < cLine):OpR X (compareOp .NotEq) (rEqL X.K true):=by
 intro pins s σ H x y v u Q I rx ry h
 obtain⟨a,b,xs,ys,e,rfl,rfl,ha,hb,hl,h,q⟩:=h
 obtain rfl:v=Value.ref a:=rx
 obtain rfl:u=Value.ref b:=ry
 obtain⟨ia,ra,pa,_⟩:=I.list ha
 obtain⟨ib,rb,pb,_⟩:=I.list hb
 have l1:=ra.length
 have l2:=rb.length
 have e1:ia.toArray.size=xs.length:=by simp;omega
 exact SeqAt.RcNeAt.lists (A:=X.A) (e:=e) pa.isList pb.isList (by simp;omega) (by omega) (qcw I hu h ra rb) _ _ _ _ ⟨_,H,I,(by rw[e1];rfl),q⟩
theorem q9p (hu:X.A.units + 64 < cLine):OpR X (compareOp .Eq) (rEqT X.K false):=by
 intro pins s σ H x y v u Q I rx ry h
 obtain⟨a,b,xs,ys,e,rfl,rfl,ha,hb,h,q⟩:=h
 obtain rfl:v=Value.ref a:=rx
 obtain rfl:u=Value.ref b:=ry
 obtain⟨ia,ra,pa,_⟩:=I.tuple ha
 obtain⟨ib,rb,pb,_⟩:=I.tuple hb
 have l1:=ra.length
 have l2:=rb.length
 have e1:ia.toArray.size=xs.length:=by simp;omega
 have e2:ib.toArray.size=ys.length:=by simp;omega
 exact SeqAt.RcAt.tuples (A:=X.A) (e:=e) (show s.heap.IsTuple a ia.toArray from pa) (show s.heap.IsTuple b ib.toArray from pb) (by omega) (qcw I hu h ra rb) _ _ _ _ ⟨_,H,I,(by rw[e1,e2];rfl),q⟩
theorem q2f {κ β:Type} [DecidableEq κ]:∀ {l:List (κ×β)} {k:κ} {v:β},(l.map (·.1)).Nodup→(k,v) ∈ l→(l.find? fun kv=>decide (kv.1=k))=some (k,v)
 | [],_,_,_,h=>by simp at h
 | p :: r,k,v,hn,hm=>by
  have hn':(p.1 :: r.map (·.1)).Nodup:=hn
  obtain⟨h1,h2⟩:=List.nodup_cons.mp hn'
  rcases List.mem_cons.mp hm with e | hm
  ·rw[← e];simp
  ·have ne:¬ p.1=k:=fun e=>h1 (List.mem_map.mpr ⟨(k,v),hm,e.symm⟩)
   rw[List.find?_cons_of_neg (by simpa using ne)]
   exact q2f h2 hm
theorem q89 {A:Around} {s:Shared} {vs':List (Key×Value)}:∀ {kvs:List (Key×V)} {vs vs0:List (Key×Value)},KV kvs vs→KV kvs vs0→(∀ p ∈ vs0,p ∈ vs')→(vs'.map (·.1)).Nodup→(∀ p ∈ kvs,q7k p.2=true) →
  PySem.W.KeqHits A s vs' vs true
 | _,_,_,.nil,_,_,_,_=> .nil
 | _,_,_,.cons (a:=a) (b:=b) r t,.cons (b:=b0) r0 t0,hm,hn,hf=>by
  obtain⟨k,v⟩:=b
  have hx:eqV a.2 a.2=true:=by
   have:=hf a List.mem_cons_self
   cases q:a.2 <;> rw[q]at this <;> simp_all[eqV,q7k]
  have e1:SeqAt.EqAt A s v b0.2 (eqV a.2 a.2):=qgi r.2 r0.2 (hf a List.mem_cons_self) (hf a List.mem_cons_self)
  rw[hx]at e1
  have hk:k=b0.1:=r.1.symm.trans r0.1
  have hv:valueAt vs' k=some b0.2:=by
   have m:(k,b0.2) ∈ vs':=by rw[hk];exact hm b0 List.mem_cons_self
   unfold valueAt
   rw[q2f hn m];rfl
  have:=PySem.W.KeqHits.hit (b:=true) hv e1 (q89 t t0 (fun p hp=>hm p (List.mem_cons_of_mem _ hp)) hn fun p hp=>hf p (List.mem_cons_of_mem _ hp))
  simpa using this
end
end L2
end
section
namespace L2
open PySem PySem.Spec PyProof.Rows
structure Df (P:Program) (w:World) (K:PySem.W.Frag) (mg:Str→Option Value) (base:Heap) (CX:CXT) (k:Nat) (x:Str) (ps:List Str) (sp:Sp):Prop where
 ex:∃ (f:Addr) (fd:FuncData),mg x=some (.ref f)∧PySem.W.keepIn K (.ref f)=true∧q4g K fd ps []∧FnOk P w K mg base CX k f fd ps sp
structure Md (P:Program) (w:World) (K:PySem.W.Frag) (mg:Str→Option Value) (base:Heap) (CX:CXT) (C:Addr) (k:Nat) (m:Str) (ps:List Str) (sp:Sp):Prop where
 cl:Cls K C
 ex:∃ (f:Addr) (fd:FuncData),Meth K C m f∧q4g K fd ps []∧FnOk P w K mg base CX k f fd ps sp
structure Cd (P:Program) (w:World) (K:PySem.W.Frag) (mg:Str→Option Value) (base:Heap) (CX:CXT) (C:Addr) (k:Nat) (x:Str) (ps:List Str) (sp:Sp):Prop where
 ex:∃ (f:Addr) (fd:FuncData),mg x=some (.ref C)∧Mk K C f∧q4g K fd ps []∧FnOk P w K mg base CX k f fd ps sp
section
variable {X:Cx} {CX:CXT} {k:Nat} {C:Addr} {ps:List Str} {sp:Sp} {E:XK} {x m:Str} {p pos apos:Pos} {e o:Expr} {es:List Expr} {ta:TE} {t:TA}
theorem q18 (D:Df X.prog X.w X.K X.mg X.base CX k x ps sp) (hr:Room k X.A) (hx:q3d CX X E) (ha:PA X (e :: es) t) (hg:Gl X x:=by rfl) (hdb:(x == ("__debug__" : Str))=false:=by decide)
  (he:starEach (e :: es) X.env=(false,eval e X.env) :: starEach es X.env:=by rfl) (hpl:(backTo pos (starEach es X.env)).any (·.1)=false:=by rfl):PE X (.Call (.Name x p) (e :: es) [] pos) (qjk sp [] E t):=by
 obtain⟨f,fd,hm,hk,hb,F⟩:=D.ex
 exact qhi F hr hg hm hk hb .nil hx ha hdb he hpl
theorem q3g {pl:Sem Bool} (D:Md X.prog X.w X.K X.mg X.base CX C k m ps sp) (hr:Room k X.A) (hx:q3d CX X E) (ho:PE X o ta) (ha:PA X (e :: es) t)
  (hst:starEach (e :: es) X.env=(false,eval e X.env) :: starEach es X.env:=by rfl) (hpl:(backTo pos (starEach es X.env)).any (·.1)=false:=by rfl)
  (ht:eval (.Call (.Attribute o m apos) (e :: es) [] pos) X.env=(do
   let ov ← eval o X.env
   standAt apos.atName
   let (f,first) ← holding [ov] (getMethod ov m pl)
   callWith pos f first (backTo pos (starEach (e :: es) X.env)) (backToKw pos (keywordEach [] X.env))):=by rfl) :
  PE X (.Call (.Attribute o m apos) (e :: es) [] pos) (qft C m sp [] E ta t):=by
 obtain⟨f,fd,hm,hb,F⟩:=D.ex
 exact qj6 ho D.cl hm F hr hb .nil hx ha hst hpl ht
theorem qgg {pl:Sem Bool} (D:Md X.prog X.w X.K X.mg X.base CX C k m ps sp) (hr:Room k X.A) (hx:q3d CX X E) (ho:PE X o ta)
  (ht:eval (.Call (.Attribute o m apos) [] [] pos) X.env=(do
   let ov ← eval o X.env
   standAt apos.atName
   let (f,first) ← holding [ov] (getMethod ov m pl)
   callWith pos f first (backTo pos (starEach [] X.env)) (backToKw pos (keywordEach [] X.env))):=by rfl) :
  PE X (.Call (.Attribute o m apos) [] [] pos) (qft C m sp [] E ta tNil):=by
 obtain⟨f,fd,hm,hb,F⟩:=D.ex
 exact qfk ho D.cl hm F hr hb .nil hx ht
theorem qiy (D:Cd X.prog X.w X.K X.mg X.base CX C k x ps sp) (hr:Room (k + 1) X.A) (hx:q3d CX X E) (ha:PA X (e :: es) t) (hg:Gl X x:=by rfl) (hdb:(x == ("__debug__" : Str))=false:=by decide)
  (he:starEach (e :: es) X.env=(false,eval e X.env) :: starEach es X.env:=by rfl) (hpl:(backTo pos (starEach es X.env)).any (·.1)=false:=by rfl):PE X (.Call (.Name x p) (e :: es) [] pos) (qkb C sp [] E t):=by
 obtain⟨f,fd,hm,M,hb,F⟩:=D.ex
 exact qje M F hr hg hm hb .nil hx ha hdb he hpl
end
def Kp (ex:List Addr) (H H':Hp):Prop:=∀ b o,H b=some o→b ∉ ex→H' b=some o
theorem Kp.refl (ex:List Addr) (H:Hp):Kp ex H H:=fun _ _ h _=>h
theorem Kp.trans {ex:List Addr} {H H1 H2:Hp} (a:Kp ex H H1) (b:Kp ex H1 H2):Kp ex H H2:=fun c o h n=>b c o (a c o h n) n
theorem Kp.new {ex:List Addr} {H:Hp} {p:Addr} {o:HO} (h:H p=none):Kp ex H (upd H p o):=fun b u e _=>by rw[q0b (q0d e h)];exact e
theorem Kp.put {ex:List Addr} {H:Hp} {p:Addr} {o:HO} (h:p ∈ ex):Kp ex H (upd H p o):=fun b u e n=>by
 have nb:b ≠ p:=fun z=>n (by rw[z];exact h)
 rw[q0b nb];exact e
theorem Kp.same {H H':Hp} (a:Kp [] H H'):Same H H':=fun b o e=>a b o e (by simp)
theorem Kp.free {H H':Hp} (e:Kp [] H H') {l:Addr} (h:H' l=none):H l=none:=e.same.free h
theorem Kp.get {ex:List Addr} {H H':Hp} (e:Kp ex H H') {a:Addr} {o:HO} (h:H a=some o) (n:a ∉ ex):H' a=some o:=e a o h n
theorem nEm {a:Addr}:a ∉ ([]:List Addr):=by simp
theorem q1u {H:Hp} {a b:Addr} {o:HO} (h:upd H a o b=none):b ≠ a∧H b=none:=by
 by_cases e:b=a
 ·subst e;rw[q03]at h;cases h
 ·rw[q0b e]at h;exact⟨e,h⟩
def Scr (K:PySem.W.Frag) (H:Hp) (a:Addr) (ns:List Int):Prop:=(∃ o,H a=some (.frz o (.lst (ns.map V.int)))) ∨
 ∃ (o:Obj) (its:Array Value) (n:Nat),K.lookup a=some o∧o.cls= .type "list" ∧ o.dict=none∧o.data= .seq its n∧its.size≤sizeLine∧Vals (ns.map V.int) its.toList
theorem Scr.sq {K:PySem.W.Frag} {H:Hp} {a:Addr} {ns:List Int} (h:Scr K H a ns):SqL K H a (ns.map V.int):=by
 rcases h with h | h
 ·exact .inl (.inr h)
 ·exact .inr h
theorem Scr.of {K:PySem.W.Frag} {H:Hp} {a:Addr} {ns:List Int} (hO:Only H) (h:SqL K H a (ns.map V.int)):Scr K H a ns:=by
 rcases h with (h | h) | h
 ·rcases hO a with z | ⟨o,xs,z⟩
  ·rw[h]at z;cases z
  ·rw[h]at z;cases z
 ·exact .inl h
 ·exact .inr h
def qly:Option HO→Prop
 | some (.frz _ _)=>False
 | _=>True
theorem Scr.keep {K:PySem.W.Frag} {H H':Hp} {ex:List Addr} {a:Addr} {ns:List Int} (h:Scr K H a ns) (kp:Kp ex H H') (hex:∀ b ∈ ex,qly (H b)):Scr K H' a ns:=by
 rcases h with ⟨o,h⟩ | h
 ·exact .inl ⟨o,kp.get h fun z=>by have:=hex a z;rw[h]at this;exact this⟩
 ·exact .inr h
theorem Scr.same {K:PySem.W.Frag} {H H':Hp} {a:Addr} {ns:List Int} (h:Scr K H a ns) (kp:Kp [] H H'):Scr K H' a ns:=h.keep kp (by simp)
theorem qjq {α:Type} {xs:List α} {i:Int} (h0:0≤i) (h1:i < xs.length):∃ v,atI xs i=some v∧xs[i.toNat]? = some v:=by
 have h:i.toNat < xs.length:=by omega
 refine⟨xs[i.toNat],?_,List.getElem?_eq_getElem h⟩
 have e:((i.toNat:Nat):Int)=i:=by omega
 have:=q08 (xs:=xs) (j:=i.toNat) (v:=xs[i.toNat]) (List.getElem?_eq_getElem h)
 rw[e]at this
 exact this
theorem abs {H:Hp} {P:Hp→Prop} (A:Hp→Prop) (ha:A H) (h:∀ H',A H'→P H'):P H:=h H ha
theorem q53 {K:PySem.W.Frag} {β:Type} (f:β→V) (ys:List β) {i:Int} {H:Hp} {Q:VK} {p:Addr} (hp:H p=none) (h0:0≤i) (h1:i < ys.length) (q:∀ y H',ys[i.toNat]? = some y→Kp [] H H'→Q (f y) H') :
  rIxL K (.ref p) (.int i) (upd H p (.lst (ys.map f))) Q:=by
 have h:i.toNat < ys.length:=by omega
 have e:((i.toNat:Nat):Int)=i:=by omega
 have hy:ys[i.toNat]? = some ys[i.toNat]:=List.getElem?_eq_getElem h
 have:=q08 (xs:=ys.map f) (j:=i.toNat) (v:=f ys[i.toNat]) (by rw[List.getElem?_map,hy];rfl)
 rw[e]at this
 exact⟨p,_,i,_,rfl,rfl,SqL.of q03,this,q _ _ hy (Kp.new hp)⟩
theorem iteD {c A B:Prop} [Decidable c] (hc:c) (h:A):if decide c=true then A else B:=by
 rw[decide_eq_true hc]
 exact iteT h
theorem q14 {c A B:Prop} [Decidable c] (hc:¬ c) (h:B):if decide c=true then A else B:=by
 rw[decide_eq_false hc]
 exact iteF h
theorem q3j (n:Nat):((List.range n).all fun _=>true)=true:=by simp
theorem qbs {n:Nat} {i:Int} {σ:St} {H:Hp} {k:St→Hp→Prop} (h:∀ c,c=i→qct n (.int c) σ H k):qct n (.int i) σ H k:=h i rfl
theorem q5r (x m n:Int) (hm:0 < m) (hn:0 < n):0≤x % m % n∧x % m % n < n:=⟨Int.emod_nonneg _ (by omega),Int.emod_lt_of_pos _ hn⟩
end L2
end
section
namespace L2
open PySem PySem.Spec PyProof.Rows
def Tr (h B:Heap) (e:Addr) (cls:Value) (dd:Option Addr) (fl:Value):Prop :=
 ∃ (oe:Obj) (vs:Array Value) (T:Addr) (oT:Obj) (ts:Array Value),h.get? e=some oe∧oe.cls=cls∧oe.dict=dd∧oe.data= .fields vs∧vs[1]? = some (.ref T)∧B.get? T=none∧T ≠ e∧h.get? T=some oT∧oT.data= .fields ts∧ts[3]? = some fl
theorem q5y (o:Obj) (f:Array Value→Array Value):(o.mapFields f).dict=o.dict:=by
 obtain⟨c,d,dt,sl⟩:=o
 cases dt <;> rfl
section
variable {M:Model} {A:Around} {E:Value→Shared→Prop} {s:Shared} {B:Heap} {env:Env} {outer l:List Env} {L e:Addr}
theorem qa9 {h h':Heap} (k:∀ b o,h.get? b=some o→(∀ vs,o.data ≠ .fields vs)→h'.get? b=some o):h.UpToSlots h':=fun b o q n=>⟨o.slots,k b o q n⟩
theorem qh7 {oe:Obj} {vs:Array Value} {head:Value} {hadNext:Bool} {Q:Unit→Shared→Prop} (hfr:A.frames=some (env :: outer)) (hl:s.heap.FunFrames B (env :: outer)) (hf:env.frame=some L) (he:s.heap.get? e=some oe) (hkb:B.StaysIn s.heap)
  (hen:B.get? e=none) (hd:oe.data= .fields vs) (hsz:1 < vs.size)
  (k:∀ h',B.StaysIn h'→h'.FunFrames B (env :: outer)→Tr h' B e oe.cls oe.dict (rawInt L)→s.heap.UpToSlots h'→Q () { s with heap:=h' }) :
  wpAny M A (do let a ← frameOf env;let pl ← entryPlaceOf L hadNext;let b ← EntryCells.newEntry head a .none (rawInt L) .none pl;setField (.ref e) 1 b) Q E s:=by
 refine wpAny_bind (wpAny_frameOf_fun hfr hl hf fun g hg=>wpAny_bind (wpAny_entryPlaceOf fun pl hp=> ?_))
 have en:e ∉ (env :: outer).filterMap (·.frame):=fun z=>by
  obtain⟨_,o,ho,hn⟩:=hl.mem z
  rw[he]at ho
  cases ho
  exact hn vs hd
 have e1:g.get? e=some oe:=(hg.2.1 e en).trans he
 have k1:B.StaysIn g:=fun b o q=>(hg.2.1 b fun z=>by rw[(hl.mem z).1]at q;cases q).trans (hkb b o q)
 unfold EntryCells.newEntry newFields
 refine wpAny_bind (wpAny_newObj_type ?_ (hp.sizeOk5 _ _ _ _ _))
 generalize htb:([head,Value.ref L,Value.none,rawInt L,Value.none] ++ (if pl.isEmpty then List.replicate 6 Value.none else pl)).toArray=tb
 have t3:tb[3]? = some (rawInt L):=by
  rw[← htb]
  first | (simp;done) | (rcases hp with rfl | ⟨_,_,_,_,_,_,_,rfl⟩ <;> simp)
 have ne:g.objs.size ≠ e:=Nat.ne_of_gt (Heap.lt_size e1)
 have d3:=Obj.data_mapFields hd (·.setIfInBounds 1 (Value.ref g.objs.size))
 refine wpAny_setField (Heap.get?_push_of_some _ e1) hd hsz ?_
 have kept:∀ b o,b ≠ e→g.get? b=some o→((g.push { cls:= .type "traceback",dict:=none,data:= .fields tb }).update e (Obj.mapFields (·.setIfInBounds 1 (Value.ref g.objs.size)))).get? b=some o:=fun b o nb q =>
  (Heap.get?_update_other _ _ (Ne.symm nb)).trans (Heap.get?_push_of_some _ q)
 have nrec:∀ b o,s.heap.get? b=some o→(∀ ws,o.data ≠ .fields ws)→b ≠ e:=fun b o q n z=>by
  rw[z,he]at q
  cases q
  exact n vs hd
 have up:∀ b o,s.heap.get? b=some o→(∀ ws,o.data ≠ .fields ws)→∃ sl,((g.push { cls:= .type "traceback",dict:=none,data:= .fields tb }).update e (Obj.mapFields (·.setIfInBounds 1 (Value.ref g.objs.size)))).get? b=some { o with slots:=sl }:=fun b o q n=>by
  obtain⟨sl,z⟩:=hg.2.2 b o q
  exact⟨sl,kept b _ (nrec b o q n) z⟩
 refine k _ (fun b o q=>kept b o (fun z=>by rw[z,hen]at q;cases q) (k1 b o q)) (hl.of_keeps fun b o q n=> ?_) ?_ up
 ·obtain⟨sl,z⟩:=up b o q n
  exact⟨_,z,rfl⟩
 ·refine⟨_,_,g.objs.size,_,tb,Heap.get?_update_self _ (Heap.get?_push_of_some _ e1) (Obj.isFreed_of_fields d3),Obj.cls_mapFields _ _,q5y _ _,d3,by simp[hsz],k1.fresh,ne,(Heap.get?_update_other _ _ (Ne.symm ne)).trans (Heap.get?_push_size g rfl),rfl,t3⟩
theorem qi4 {cls fl:Value} {dd fr:Option Addr} {Q:Unit→Shared→Prop} (hkb:B.StaysIn s.heap) (hl:s.heap.FunFrames B l) (ht:Tr s.heap B e cls dd fl)
  (k:∀ h',B.StaysIn h'→h'.FunFrames B l→Tr h' B e cls dd (fr.elim .none fun f=>rawInt f)→s.heap.UpToSlots h'→Q () { s with heap:=h' }):wpAny M A (setFlight (.ref e) fr) Q E s:=by
 obtain⟨oe,vs,T,oT,ts,he,hc,hdd,hd,h1,hT0,nT,hT,dT,h3⟩:=ht
 have hsz:3 < ts.size:=(Array.getElem?_eq_some_iff.mp h3).1
 unfold setFlight
 refine wpAny_bind (wpAny_field he hd h1 ?_)
 rw[if_pos (show (Value.ref T != Value.none)=true by simp)]
 have oth:∀ b,b ≠ T→(s.heap.update T (Obj.mapFields (·.setIfInBounds 3 (fr.elim Value.none fun f=>rawInt f)))).get? b=s.heap.get? b:=fun b nb=>Heap.get?_update_other _ _ (Ne.symm nb)
 have nrec:∀ b o,s.heap.get? b=some o→(∀ ws,o.data ≠ .fields ws)→b ≠ T:=fun b o q n z=>by
  rw[z,hT]at q
  cases q
  exact n ts dT
 refine wpAny_setField hT dT hsz (k _ (fun b o q=>(oth b fun z=>by rw[z,hT0]at q;cases q).trans (hkb b o q)) (hl.of_keeps fun b o q n=>⟨o,(oth b (nrec b o q n)).trans q,rfl⟩) ?_ (qa9 fun b o q n=>(oth b (nrec b o q n)).trans q))
 have d3:=Obj.data_mapFields dT (·.setIfInBounds 3 (fr.elim Value.none fun f=>rawInt f))
 exact⟨oe,vs,T,_,_,(oth e (Ne.symm nT)).trans he,hc,hdd,hd,h1,hT0,nT,Heap.get?_update_self _ hT (Obj.isFreed_of_fields d3),d3,by simp[hsz]⟩
theorem qlu {cls fl:Value} {dd:Option Addr} {Q:Unit→Shared→Prop} (hfr:A.frames=some (env :: outer)) (hf:env.frame=some L) (hkb:B.StaysIn s.heap) (hl:s.heap.FunFrames B (env :: outer)) (hen:B.get? e=none) (ht:Tr s.heap B e cls dd fl)
  (k:∀ h',B.StaysIn h'→h'.FunFrames B (env :: outer)→Tr h' B e cls dd (rawInt L)→s.heap.UpToSlots h'→Q () { s with heap:=h' }):wpAny M A (noteFrame (.ref e) env) Q E s:=by
 obtain⟨oe,vs,T,oT,ts,he,hc,hdd,hd,h1,hT0,nT,hT,dT,h3⟩:=id ht
 unfold noteFrame
 simp only[hf]
 refine wpAny_bind (wpAny_field he hd h1 ?_)
 rw[if_pos (show (Value.ref T != Value.none)=true by simp)]
 refine wpAny_bind (wpAny_field hT dT h3 ?_)
 by_cases z:fl=rawInt L
 case neg =>
  rw[if_neg (show ¬ ((fl == rawInt L)=true) from fun y=>z (beq_iff_eq.mp y))]
  have hsz:3 < ts.size:=(Array.getElem?_eq_some_iff.mp h3).1
  refine wpAny_bind (wpAny_setField hT dT hsz ?_)
  have oth:∀ b,b ≠ T→(s.heap.update T (Obj.mapFields (·.setIfInBounds 3 Value.none))).get? b=s.heap.get? b:=fun b nb=>Heap.get?_update_other _ _ (Ne.symm nb)
  have nrec:∀ b o,s.heap.get? b=some o→(∀ ws,o.data ≠ .fields ws)→b ≠ T:=fun b o q n z=>by
   rw[z,hT]at q
   cases q
   exact n ts dT
  have up1:s.heap.UpToSlots (s.heap.update T (Obj.mapFields (·.setIfInBounds 3 Value.none))):=qa9 fun b o q n=>(oth b (nrec b o q n)).trans q
  subst hc hdd
  exact qh7 hfr (hl.of_keeps fun b o q n=>⟨o,(oth b (nrec b o q n)).trans q,rfl⟩) hf ((oth e (Ne.symm nT)).trans he) (fun b o q=>(oth b fun z=>by rw[z,hT0]at q;cases q).trans (hkb b o q)) hen hd (Array.getElem?_eq_some_iff.mp h1).1
   fun h' a b c d=>k h' a b c (up1.trans d)
 case pos =>
  subst z
  rw[if_pos (show (rawInt L == rawInt L)=true by simp)]
  exact wpAny_pure (k s.heap hkb hl ht (.refl _))
theorem qkq {h:Heap} {cls:Value} {args:List Value} {Q:Unit→Shared→Prop} (hfr:A.frames=some (env :: outer)) (hf:env.frame=some L) (hkb:B.StaysIn h) (hl:h.FunFrames B (env :: outer)) (hx:Heap.MadeExcOf h s.heap e cls args)
  (k:∀ h',B.StaysIn h'→h'.FunFrames B (env :: outer)→Tr h' B e cls none (rawInt L)→s.heap.UpToSlots h'→Q () { s with heap:=h' }):wpAny M A (noteFrame (.ref e) env) Q E s:=by
 obtain⟨t,he,_,_⟩:=hx.there
 have hen:B.get? e=none:=by
  cases q:B.get? e with
  | none=>rfl
  | some o=>have:=hkb e o q;rw[hx.new]at this;cases this
 unfold noteFrame
 simp only[hf]
 refine wpAny_bind (wpAny_field he rfl (x:= .none) rfl ?_)
 rw[if_neg (by decide)]
 exact qh7 hfr (hl.of_keeps fun b o q _=>⟨o,hx.keeps b o q,rfl⟩) hf he (fun b o q=>hx.keeps b o (hkb b o q)) hen rfl (by show 1 < 6;decide) k
end
end L2
end
section
namespace L2
open PySem PySem.Spec PyProof.Rows
structure FnCx (X:Cx):Prop where
 stk:X.stack=X.env :: X.outer
 fr:X.env.frame=some X.env.locals
 ex:X.ex=[]
 fn:∀ x,X.fn x=true
structure Cov (X:Cx) (pins:List (Addr×Obj)) (H:Hp) (B:Heap):Prop where
 c1:∀ b o,X.s₀.heap.get? b=some o→X.H₀ b=none→b ∉ X.fs→B.get? b=some o
 c2:∀ b,H b ≠ none→∃ o,B.get? b=some o
 c3:∀ x c,X.env.cells.lookup x=some c→∃ o,B.get? c=some o
 c4:∀ p ∈ X.pn ++ pins,B.get? p.1=some p.2
 c5:∀ b o,X.s₀.heap.get? b=some o→b ∉ X.fs→∃ o',B.get? b=some o'
section
variable {X:Cx} {pins:List (Addr×Obj)} {σ:St} {H:Hp} {s:Shared} {B h':Heap}
theorem Inv.moved (fx:FnCx X) (I:Inv X pins σ H s) (C:Cov X pins H B) (k0:B.StaysIn s.heap) (k1:B.StaysIn h') (up:s.heap.UpToSlots h') {t:Nat}:Inv X pins σ H { s with heap:=h',toks:=t }:=by
 have cellK:∀ x c v,X.env.cells.lookup x=some c→s.heap.IsCell c v→h'.IsCell c v:=fun x c v e ⟨o,ho,hd⟩=>by
  obtain⟨o',hb⟩:=C.c3 x c e
  have:=k0 c o' hb
  rw[ho]at this
  cases this
  exact⟨o,k1 c _ hb,hd⟩
 have fsl:∀ b o,s.heap.get? b=some o→b ∈ X.fs→∃ sl,h'.get? b=some { o with slots:=sl }:=fun b o e hb=>by
  obtain⟨_,o2,ho2,hn⟩:=I.funs.mem hb
  rw[e]at ho2
  cases ho2
  exact up b o e hn
 refine⟨I.ok,I.os,I.bare,⟨fun b o e n hb hx=>k1 b o (C.c1 b o e n hb),fun b o e n hb hx=> ?_,I.base.free,fun b o e hx=> ?_,I.base.tups,I.base.frzs,I.base.tbls⟩,?_,fun x c e=> ?_,I.free,I.freeC,fun p hp=> ?_,fun a o e=> ?_,I.len⟩
 ·obtain⟨sl,e1⟩:=I.base.slot b o e n hb hx
  obtain⟨sl2,e2⟩:=fsl b _ e1 hb
  exact⟨sl2,e2⟩
 ·by_cases hb:b ∈ X.fs
  ·obtain⟨o1,e1⟩:=I.base.there b o e hx
   obtain⟨sl2,e2⟩:=fsl b o1 e1 hb
   exact⟨_,e2⟩
  ·obtain⟨o',z⟩:=C.c5 b o e hb
   exact⟨o',k1 b o' z⟩
 ·obtain⟨m,hn,hl⟩:=I.loc
  refine⟨m,up.ns hn,fun i x v e1 e2 e3=> ?_⟩
  obtain⟨u,r,lk⟩:=hl i x v e1 e2 e3
  refine⟨u,r,?_⟩
  rcases lk with lk | ⟨k,c,e,z⟩
  ·exact .inl lk
  ·exact .inr ⟨k,c,e,cellK x c _ e z⟩
 ·obtain⟨v,z⟩:=I.cell x c e
  exact⟨v,cellK x c v e z⟩
 ·obtain⟨e,n,ne,nf,d⟩:=I.pin p hp
  exact⟨k1 _ _ (C.c4 p hp),n,ne,nf,d⟩
 ·refine(I.hok a o e).stay (fun b u hb q=> ?_) (fun _ q=>q) fun _ _ q=>q
  have hn:H b ≠ none:=by
   rcases hb with z | z
   ·rw[z,e];simp
   ·rw[z];simp
  obtain⟨o',z⟩:=C.c2 b hn
  have:=k0 b o' z
  rw[q]at this
  cases this
  exact k1 b _ z
end
structure XF (X:Cx) (pins:List (Addr×Obj)) (ea:Addr) (cls:Value) (fl:Value) (H:Hp) (s:Shared) (B:Heap):Prop where
 cov:Cov X pins H B
 new:B.get? ea=none
 st:B.StaysIn s.heap
 fun_:s.heap.FunFrames B X.stack
 tr:Tr s.heap B ea cls none fl
def XSt (X:Cx) (pins:List (Addr×Obj)) (ea:Addr) (cls:Value) (H:Hp) (s:Shared):Prop :=
 (∃ B h args,Cov X pins H B∧Heap.MadeExcOf h s.heap ea cls args∧B.StaysIn h∧h.FunFrames B X.stack)∨∃ B fl,XF X pins ea cls fl H s B∧(fl=fl∨fl=rawInt X.env.locals)
abbrev XKs:=St→Value→Hp→Prop
def XP (X:Cx) (pins:List (Addr×Obj)) (xk:XKs) (e:Value) (s:Shared):Prop:=∃ ea cls σ H,e= .ref ea∧Inv X pins σ H s∧XSt X pins ea cls H s∧xk σ cls H
section
variable {X:Cx} {pins:List (Addr×Obj)} {σ:St} {H:Hp} {s:Shared} {ea:Addr} {cls fl:Value} {A:Around} {E:Value→Shared→Prop} {B:Heap}
theorem XSt.note {Q:Unit→Shared→Prop} (fx:FnCx X) (I:Inv X pins σ H s) (S:XSt X pins ea cls H s) (hA:A.frames=some X.stack)
  (k:∀ h' B,Inv X pins σ H { s with heap:=h' }→XF X pins ea cls (rawInt X.env.locals) H { s with heap:=h' } B→Q () { s with heap:=h' }):wpAny (model X.prog X.w) A (noteFrame (.ref ea) X.env) Q E s:=by
 rw[fx.stk]at hA
 rcases S with ⟨B,h,args,C,hx,st,fu⟩ | ⟨B,fl,F,hfl⟩
 ·rw[fx.stk]at fu
  have hen:B.get? ea=none:=by
   cases q:B.get? ea with
   | none=>rfl
   | some o=>have:=st ea o q;rw[hx.new]at this;cases this
  exact qkq hA fx.fr st fu hx fun h' a b c d=>k h' B (I.moved (t:=s.toks) fx C (fun b o q=>hx.keeps b o (st b o q)) a d) ⟨C,hen,a,by rw[fx.stk];exact b,c⟩
 ·have fu:=F.fun_
  rw[fx.stk]at fu
  exact qlu hA fx.fr F.st fu F.new F.tr fun h' a b c d=>k h' B (I.moved (t:=s.toks) fx F.cov F.st a d) ⟨F.cov,F.new,a,by rw[fx.stk];exact b,c⟩
theorem XF.flight {fr:Option Addr} {Q:Unit→Shared→Prop} (fx:FnCx X) (I:Inv X pins σ H s) (F:XF X pins ea cls fl H s B)
  (k:∀ h',Inv X pins σ H { s with heap:=h' }→XF X pins ea cls (fr.elim .none fun f=>rawInt f) H { s with heap:=h' } B→Q () { s with heap:=h' }):wpAny (model X.prog X.w) A (setFlight (.ref ea) fr) Q E s :=
 qi4 F.st F.fun_ F.tr fun h' a b c d=>k h' (I.moved (t:=s.toks) fx F.cov F.st a d) ⟨F.cov,F.new,a,b,c⟩
theorem XF.xst (F:XF X pins ea cls (rawInt X.env.locals) H s B):XSt X pins ea cls H s:= .inr ⟨B,_,F,.inr rfl⟩
theorem XP.unpinned {pl:List (Addr×Obj)} {xk:XKs} {e:Value} (h:XP X (pins ++ pl) xk e s):XP X pins xk e s:=by
 obtain⟨ea,cls,σ,H,rfl,I,S,q⟩:=h
 have cv:∀ {B:Heap},Cov X (pins ++ pl) H B→Cov X pins H B:=fun C=>⟨C.c1,C.c2,C.c3,fun p hp=>C.c4 p (by
  rcases List.mem_append.mp hp with z | z
  ·exact List.mem_append_left _ z
  ·exact List.mem_append_right _ (List.mem_append_left _ z)),C.c5⟩
 refine⟨ea,cls,σ,H,rfl,I.unpinned,?_,q⟩
 rcases S with ⟨B,h,args,C,r⟩ | ⟨B,fl,F,z⟩
 ·exact .inl ⟨B,h,args,cv C,r⟩
 ·exact .inr ⟨B,fl,⟨cv F.cov,F.new,F.st,F.fun_,F.tr⟩,z⟩
theorem XP.passes {xk:XKs} (fx:FnCx X) (hA:X.A.frames=some X.stack):PassesOwn (model X.prog X.w) X.A X.env (XP X pins xk):=by
 intro e s' h
 obtain⟨ea,cls,σ,H,rfl,I,S,q⟩:=h
 refine XSt.note fx I S hA fun h' B I1 F1=> ?_
 unfold cameBackBy
 obtain⟨oe,vs,T,oT,ts,he,hc,hdd,hd,h1,r⟩:=id F1.tr
 refine wpAny_bind (wpAny_field he hd h1 ?_)
 rw[if_neg (show ¬ ((Value.ref T == Value.none)=true) by simp)]
 rw[fx.fr]
 exact F1.flight fx I1 fun h2 I2 F2=>⟨ea,cls,σ,H,rfl,I2,F2.xst,q⟩
end
def CX1 (P:Program) (w:World):CXT:=fun outer H s E e s'=>∃ ea cls H' B,e= .ref ea∧s'.os=s.os∧AllBare s'.gens∧Un (frs outer) [] H H' s.heap s'.heap∧HOk P w H' s'.heap∧B.get? ea=none∧B.StaysIn s'.heap∧s'.heap.FunFrames B outer∧Tr s'.heap B ea cls none .none ∧
 (∀ b o,s.heap.get? b=some o→H b=none→b ∉ frs outer→B.get? b=some o)∧(∀ b,H' b ≠ none→∃ o,B.get? b=some o)∧(∀ b o,s.heap.get? b=some o→b ∉ frs outer→∃ o',B.get? b=some o')∧E cls none H'
theorem FnOk.lift {P:Program} {w:World} {K:PySem.W.Frag} {mg:Str→Option Value} {base:Heap} {CX:CXT} {k:Nat} {f:Addr} {fd:FuncData} {ps:List Str} {sp:Sp} (F:FnOk P w K mg base CX0 k f fd ps sp):FnOk P w K mg base CX k f fd ps sp :=
 ⟨F.len,fun A outer s H args us vs Q E hr e0 hb r hsp=>codeAny_mono (F.run A outer s H args us vs Q E hr e0 hb r hsp) fun r s' h=>by
  cases r with
  | error e=>exact False.elim h
  | ok f=>cases f <;> exact h⟩
section
variable {X:Cx} {pins:List (Addr×Obj)} {σ:St} {H:Hp} {s s':Shared} {xk:XKs}
theorem Inv.nofsL (I:Inv X pins σ H s) (fx:FnCx X) {b:Addr} (h1:b ≠ X.env.locals) (h2:b ∉ X.fs):b ∉ frs X.stack:=fun z=>by
 rcases List.mem_cons.mp (I.stkSub b z) with q | q
 ·exact h1 q
 ·exact h2 q
theorem CX1.xp {E:XK} {e:Value} (fx:FnCx X) (I:Inv X pins σ H s) (h:CX1 X.prog X.w X.stack H s E e s') (hE:∀ cls H',E cls none H'→xk σ cls H'):XP X pins xk e s':=by
 obtain⟨ea,cls,H',B,rfl,os,bare,un,hok,new,st,fu,tr,d1,d2,d3,q⟩:=h
 have I':Inv X pins σ H' s':=I.call' (ch:=[]) os un hok bare fun b hb=>nomatch hb
 have neL:∀ b o,X.s₀.heap.get? b=some o→b ≠ X.env.locals:=fun b o z=>Nat.ne_of_lt (Nat.lt_of_lt_of_le (Heap.lt_size z) I.ok.above)
 have nx:∀ b:Addr,b ∉ X.ex:=fun b=>by rw[fx.ex];simp
 refine⟨ea,cls,σ,H',rfl,I',.inr ⟨B,.none,⟨⟨fun b o z n hb=> ?_,d2,fun x c z=> ?_,fun p hp=> ?_,fun b o z hb=> ?_⟩,new,st,fu,tr⟩,.inl rfl⟩,hE cls H' q⟩
 ·exact d1 b o (I.base.keep b o z n hb (nx b)) (I.base.free b o z n (nx b)) (I.nofsL fx (neL b o z) hb)
 ·obtain⟨v,o,ho,_⟩:=I.cell x c z
  refine⟨o,d1 c o ho (I.freeC x c z) (I.nofsL fx (I.cne x c z) fun hb=> ?_)⟩
  obtain⟨_,o2,ho2,_⟩:=I.ok.funs.mem hb
  exact absurd (Nat.lt_of_lt_of_le (Heap.lt_size ho2) (I.ok.cab x c (fx.fn x) z)) (Nat.lt_irrefl _)
 ·obtain⟨z,n,ne,nf,_⟩:=I.pin p hp
  exact d1 _ _ z n (I.nofsL fx ne nf)
 ·obtain⟨o1,z1⟩:=I.base.there b o z (nx b)
  exact d3 b o1 z1 (I.nofsL fx (neL b o z) hb)
theorem XP.leaves {E:XK} {e:Value} (fx:FnCx X) (hA:X.A.frames=some X.stack) (hxk:∀ σ cls H,xk σ cls H→E cls none H) (h:XP X pins xk e s') :
  wpAny (model X.prog X.w) X.A (leaving X.env e) (fun _ s''=>CX1 X.prog X.w X.outer X.H₀ X.s₀ E e s'') (fun e' s''=>CX1 X.prog X.w X.outer X.H₀ X.s₀ E e' s'') s':=by
 obtain⟨ea,cls,σ,H,rfl,I,S,q⟩:=h
 unfold leaving
 refine wpAny_bind (XSt.note fx I S hA fun h1 B I1 F1=>F1.flight fx I1 fun h2 I2 F2=> ?_)
 have fu:=F2.fun_
 rw[fx.stk]at fu
 have un:=I2.base
 rw[fx.ex]at un
 exact⟨ea,cls,H,B,rfl,I2.os,I2.bare,un,I2.hok,F2.new,F2.st,fu.2.2,F2.tr,fun b o z n hb=>F2.cov.c1 b o z n hb,F2.cov.c2,fun b o z hb=>F2.cov.c5 b o z hb,hxk σ cls H q⟩
end
abbrev TEx:=XKs→St→Hp→VK→Prop
abbrev TX:=Ends→XKs→St→Hp→Prop
def PEX (X:Cx) (e:Expr) (t:TEx):Prop :=
 ∀ (pins:List (Addr×Obj)) (s:Shared) (σ:St) (H:Hp) (Q:VK) (xk:XKs),Inv X pins σ H s→t xk σ H Q→wpAny (model X.prog X.w) X.A (eval e X.env) (EP X pins σ Q) (XP X pins xk) s
def PSX (X:Cx) (st:Stmt) (t:TX):Prop :=
 ∀ (pins:List (Addr×Obj)) (s:Shared) (σ:St) (H:Hp) (D:Ends) (xk:XKs),Inv X pins σ H s→t D xk σ H→wpAny (model X.prog X.w) X.A (exec st X.env) (SP X pins D) (XP X pins xk) s
def PSXs (X:Cx) (st:List Stmt) (t:TX):Prop :=
 ∀ (pins:List (Addr×Obj)) (s:Shared) (σ:St) (H:Hp) (D:Ends) (xk:XKs),Inv X pins σ H s→t D xk σ H→wpAny (model X.prog X.w) X.A (execs st X.env) (SP X pins D) (XP X pins xk) s
section
variable {X:Cx} {st:Stmt} {rest:List Stmt} {e:Expr} {pos:Pos}
theorem q31 {t:TS} (h:PS X.nox st t):PSX X st (fun D _=>t D):=fun pins s σ H D xk I hw=>wpAny_mono (h pins s σ H D (I.wish _) hw) (fun _ _ q=>q.unwish) fun _ _ z=>z.elim
theorem q5d {ss:List Stmt} {t:TS} (h:PSs X.nox ss t):PSXs X ss (fun D _=>t D):=fun pins s σ H D xk I hw=>wpAny_mono (h pins s σ H D (I.wish _) hw) (fun _ _ q=>q.unwish) fun _ _ z=>z.elim
def qm3 (t u:TX):TX:=fun D xk σ H=>t { D with nx:=u D xk } xk σ H
theorem q1f {t u:TX} (h1:PSX X st t) (h2:PSXs X rest u):PSXs X (st :: rest) (qm3 t u):=by
 intro pins s σ H D xk I h
 refine wpAny_execs_cons (thn (h1 pins s σ H { D with nx:=u D xk } xk I h) fun f s1 q=> ?_)
 cases f with
 | next =>
  obtain⟨σ',H',I',q⟩:=q
  exact h2 pins s1 σ' H' D xk I' q
 | ret v=>exact q
 | brk=>exact q
 | cont=>exact q
theorem q1v {t:TX} (h1:PSX X st t):PSXs X [st] t:=by
 intro pins s σ H D xk I h
 refine wpAny_execs_cons (thn (h1 pins s σ H D xk I h) fun f s1 q=> ?_)
 cases f with
 | next=>exact wpAny_execs_nil q
 | ret v=>exact q
 | brk=>exact q
 | cont=>exact q
theorem qg8 {t:TEx} (he:PEX X e t) (hs:swapsWith e none pos.line X.env=pure false:=by rfl):PSX X (.Expr e pos) (fun D xk σ H=>t xk σ H fun _ H1=>D.nx σ H1):=by
 intro pins s σ H D xk I h
 exact wpAny_Expr_any (thn (he pins s σ H _ xk I h) fun v s1 ⟨x,H1,I1,r1,q1⟩=>⟨σ,H1,I1,q1⟩) I.quiet hs
theorem q70 {t:TEx} (he:PEX X e t):PSX X (.Return (some e) pos) (fun D xk σ H=>t xk σ H D.rt):=by
 intro pins s σ H D xk I h
 exact wpAny_Return_some (thn (he pins s σ H _ xk I h) fun v s1 ⟨x,H1,I1,r1,q1⟩=>⟨x,σ,H1,I1,r1,q1⟩)
theorem q82 {c:Expr} {a b:List Stmt} {tc:TT} {t u:TX} (hc:PT X.nox c tc) (ha:PSXs X a t) (hb:PSXs X b u):PSX X (.If c a b pos) (fun D xk σ H=>tc σ H fun k H1=>if k=true then t D xk σ H1 else u D xk σ H1):=by
 intro pins s σ H D xk I h
 refine wpAny_If (wpAny_mono (hc pins s σ H _ (I.wish _) h) (fun k s1 ⟨H1,I1,q⟩=> ?_) fun _ _ z=>z.elim)
 cases k with
 | true=>exact ha pins s1 σ H1 D xk I1.unwish q
 | false=>exact hb pins s1 σ H1 D xk I1.unwish q
end
def qjj (sp:Sp) (t:TA):TEx:=fun xk σ H Q=>t σ H fun vs H1=>sp (vs ++ []) H1 Q fun cls _ H2=>xk σ cls H2
section
variable {X:Cx} {k:Nat} {ps:List Str} {sp:Sp} {x:Str} {p pos:Pos} {e:Expr} {es:List Expr} {t:TA}
theorem q9e {pins:List (Addr×Obj)} {σ:St} {H:Hp} {s:Shared} {Q:VK} {us:List Value} {vs:List V} {f:Addr} {fd:FuncData} {xk:XKs} (F:FnOk X.prog X.w X.K X.mg X.base (CX1 X.prog X.w) k f fd ps sp) (hr:Room k X.A) (hb:q4g X.K fd ps []) (fx:FnCx X)
  (I:Inv X pins σ H s) (r:Vals vs us) (h:sp (vs ++ []) H Q fun cls _ H2=>xk σ cls H2):wpAny (model X.prog X.w) X.A (call (.ref f) us) (EP X pins σ Q) (XP X pins xk) s:=by
 have r2:Vals (vs ++ []) (us ++ []):=r.append .nil
 have hl:(us ++ []).length=ps.length:=by rw[← r2.length];exact F.len _ _ _ _ h
 refine wpAny_call (codeAny_mono (F.run X.A X.stack s H ⟨us,[]⟩ (us ++ []) (vs ++ []) Q _ hr I.env0 (hb s us I.kIn hl) r2 h) fun r s' hq=> ?_)
 cases r with
 | error e=>exact CX1.xp (E:=fun cls _ H2=>xk σ cls H2) fx I hq fun cls H' z=>z
 | ok fl =>
  cases fl with
  | ret u=>exact I.after hq
  | next=>exact False.elim hq
  | brk=>exact False.elim hq
  | cont=>exact False.elim hq
theorem qkh (fx:FnCx X) (D:Df X.prog X.w X.K X.mg X.base (CX1 X.prog X.w) k x ps sp) (hr:Room k X.A) (ha:PA X.nox (e :: es) t) (hg:Gl X x:=by rfl) (hdb:(x == ("__debug__" : Str))=false:=by decide)
  (he:starEach (e :: es) X.env=(false,eval e X.env) :: starEach es X.env:=by rfl) (hpl:(backTo pos (starEach es X.env)).any (·.1)=false:=by rfl):PEX X (.Call (.Name x p) (e :: es) [] pos) (qjj sp t):=by
 obtain⟨f,fd,hm,hk,hb,F⟩:=D.ex
 intro pins s σ H Q xk I h
 refine wpAny_Call_Name_kw (q5o I hg hm ?_ hdb)
 refine PySem.W.callWith_K (h₀:=X.base) I.ok.mod.kin hk (wpAny_mono (ha pos pins s σ H _ (I.wish _) h) (fun us s1 ⟨vs,H1,I1,r,q⟩=>⟨I1.unwish.kIn,?_⟩) fun _ _ z=>z.elim) he hpl
 exact q9e F hr hb fx I1.unwish r q
end
section
variable {P:Program} {w:World} {K:PySem.W.Frag} {mg:Str→Option Value} {base:Heap}
theorem q3x {CX:CXT} {N:List Str} {qual:Str} {scope:Scope} {f:Addr} {cd:Value} {A:Around} {outer:List Env} {s:Shared} {H:Hp} {E:XK}:FnCx (cxOf CX P w K mg base N qual scope f cd A outer s H E):=⟨rfl,rfl,rfl,fun _=>rfl⟩
theorem Fun.okX {x qual:Str} {st:Stmt} {f:Addr} {fd:FuncData} {N ps:List Str} {k:Nat} {sp:Sp} (F:Fun K x qual st f fd) (S:FnScope N ps (q06 st)) (len:∀ vs H Q E,sp vs H Q E→vs.length=ps.length)
  (hbody:∀ (cdv:Value) (A:Around) (outer:List Env) (s:Shared) (H:Hp) (vs:List V) (Q:VK) (E:XK),Room k (A.deeper (envOfC qual (q06 st) s.heap.objs.size f cdv))→sp vs H Q E →
   ∃ t,PSXs (cxOf (CX1 P w) P w K mg base N qual (q06 st) f cdv A outer s H E) (q0g st) t∧t { nx:=fun _ H'=>Q .non H',rt:=Q } (fun _ cls H'=>E cls none H') (start N vs) H):FnOk P w K mg base (CX1 P w) (k + 1) f fd ps sp:=by
 obtain⟨oc,od,kV,doc,pm,an,cdv,ct,osl,rfl,lk,hcd⟩:=F.ex
 refine ql8 lk hcd S len fun A outer s H vs Q E hr hsp=> ?_
 obtain⟨t,h,q⟩:=hbody cdv A outer s H vs Q E hr hsp
 refine⟨fun D σ H'=>t D (fun _ cls H'=>E cls none H') σ H',fun pins s1 σ H1 D I hw=> ?_,q⟩
 exact wpAny_mono (h pins s1 σ H1 D _ I hw) (fun _ _ z=>z) fun e s2 z=>XP.leaves q3x I.ok.frames (fun _ _ _ q=>q) z
end
end L2
end
section
namespace L2
open PySem PySem.Spec PyProof.Rows
theorem qlt {K:PySem.W.Frag} {h:Heap} {C:Addr} {bmB:List Value} {newId:String} (Y:K.In h) (q:PySem.W.excIn K C bmB newId=true):∃ bm N nm qn bs hdct sn sub ab col dd k0 k1 k2 k3 k5 mN,
  h.get? C=some (excClassObj nm qn C N bs bm hdct sn sub ab col dd k0 k1 k2 k3 k5 newId)∧h.Ns N mN∧mN "__init__" = none∧OwnTail h bmB bm:=by
 unfold PySem.W.excIn at q
 split at q
 case h_2=>cases q
 case h_1 dd cd sl ho =>
  split at q
  case h_2=>cases q
  case h_1 C' bm k0 k1 k2 k3 n k5 hm hs =>
   simp only[Bool.and_eq_true,beq_iff_eq,Bool.not_eq_true']at q
   obtain⟨⟨⟨⟨⟨e1,e2⟩,e3⟩,e4⟩,e5⟩,e6⟩:=q
   obtain⟨nm,bs,mro,ns,qn,hd,sn,sub,ab,col,del⟩:=cd
   dsimp only at hm e3 e5 e6
   subst hm e1 e2 e3
   obtain⟨sl⟩:=sl
   dsimp only at hs
   subst hs
   exact⟨bm,ns,nm,qn,bs,hd,sn,sub,ab,col,dd,k0,k1,k2,k3,k5,_,Y _ _ ho,.of_isNs (PySem.W.isNs_of_in Y e5),PySem.W.nsMap_none_of_in Y e5 e6,PySem.W.tail_of_in Y e4⟩
section
variable {X:Cx} {C:Addr} {bmB:List Value} {Bn newId initId:String} {x:Str} {np cpos pos:Pos} {e:Expr} {es:List Expr} {t:TA}
theorem qff {pins:List (Addr×Obj)} {σ:St} {H:Hp} {s:Shared} (fx:FnCx X) (I:Inv X pins σ H s):Cov X pins H (PySem.W.hideAll s.heap (frs X.stack))∧(PySem.W.hideAll s.heap (frs X.stack)).StaysIn s.heap∧s.heap.FunFrames (PySem.W.hideAll s.heap (frs X.stack)) X.stack:=by
 have nx:∀ b:Addr,b ∉ X.ex:=fun b=>by rw[fx.ex];simp
 have neL:∀ b o,X.s₀.heap.get? b=some o→b ≠ X.env.locals:=fun b o z=>Nat.ne_of_lt (Nat.lt_of_lt_of_le (Heap.lt_size z) I.ok.above)
 refine⟨⟨fun b o z n hb=>PySem.W.hideAll_get _ (I.base.keep b o z n hb (nx b)) (I.nofsL fx (neL b o z) hb),fun b hb=> ?_,fun x c z=> ?_,fun p hp=> ?_,fun b o z hb=> ?_⟩,fun b o z=>PySem.W.of_hideAll _ z,PySem.W.funFrames_hide I.stack fun env he a ha=>List.mem_filterMap.mpr ⟨env,he,ha⟩⟩
 ·cases q:H b with
  | none=>exact absurd q hb
  | some u =>
   have lt:=I.hok.lt q
   obtain⟨o,ho⟩:∃ o,s.heap.get? b=some o:=by
    have z:=I.hok b u q
    cases u with
    | lst xs=>obtain⟨_,_,_,_,e⟩:=z;exact⟨_,e⟩
    | tup xs=>obtain⟨_,_,_,ob,e,_⟩:=z;exact⟨_,e⟩
    | dK kvs=>obtain⟨_,_,_,_,o,_,_,e,_⟩:=z;exact⟨_,e⟩
    | dT kvs=>obtain⟨_,_,_,_,o,_,_,e,_⟩:=z;exact⟨_,e⟩
    | set S n=>obtain⟨o,_,_,_,e,_⟩:=z;exact⟨_,e⟩
    | ins C dx fs=>obtain⟨_,_,_,e,_⟩:=z;exact⟨_,e⟩
    | own y=>exact z
    | xd fs=>obtain⟨_,⟨_,_,_,e,_⟩,_⟩:=z;exact⟨_,e⟩
    | rng lo hi=>obtain⟨_,_,_,e⟩:=z;exact⟨_,e⟩
    | frz ob u=>exact⟨_,z.1⟩
    | tbl ps=>exact⟨_,z⟩
    | met f y=>exact⟨_,z⟩
    | ext φ=>exact z.2.1
   refine⟨o,PySem.W.hideAll_get _ ho fun hm=> ?_⟩
   rw[I.stkFree b hm]at q
   cases q
 ·obtain⟨v,o,ho,_⟩:=I.cell x c z
  refine⟨o,PySem.W.hideAll_get _ ho (I.nofsL fx (I.cne x c z) fun hb=> ?_)⟩
  obtain⟨_,o2,ho2,_⟩:=I.ok.funs.mem hb
  exact absurd (Nat.lt_of_lt_of_le (Heap.lt_size ho2) (I.ok.cab x c (fx.fn x) z)) (Nat.lt_irrefl _)
 ·obtain⟨z,n,ne,nf,_⟩:=I.pin p hp
  exact PySem.W.hideAll_get _ z (I.nofsL fx ne nf)
 ·obtain⟨o1,z1⟩:=I.base.there b o z (nx b)
  exact⟨o1,PySem.W.hideAll_get _ z1 (I.nofsL fx (neL b o z) hb)⟩
theorem q7r (fx:FnCx X) (hc:X.calm=true) (hm:X.mg x=some (.ref C)) (q:PySem.W.excIn X.K C bmB newId=true) (FB:ExcBaseFacts Bn newId initId bmB) (ha:PA X.nox (e :: es) t) (hg:Gl X x:=by rfl) (hdb:(x == ("__debug__" : Str))=false:=by decide)
  (he:starEach (e :: es) X.env=(false,eval e X.env) :: starEach es X.env:=by rfl) (hpl:(backTo cpos (starEach es X.env)).any (·.1)=false:=by rfl) :
  PSX X (.Raise (some (.Call (.Name x np) (e :: es) [] cpos)) none pos) (fun _ xk σ H=>t σ H fun vs H1=>vs.length≤sizeLine∧xk σ (.ref C) H1):=by
 intro pins s σ H D xk I h
 obtain⟨bm,N,nm,qn,bs,hdct,sn,sub,ab,col,dd,k0,k1,k2,k3,k5,mN,hC,hN,hni,T⟩:=qlt I.mod.kin q
 refine wpAny_Raise_call_subT (C:=C) (nm:=nm) (q:=qn) (N:=N) (bs:=bs) (bm:=bm) (hdct:=hdct) (sn:=sn) (sub:=sub) (ab:=ab) (col:=col) (dd:=dd) (k0:=k0) (k1:=k1) (k2:=k2) (k3:=k3) (k5:=k5) FB (mN:=mN) (T.hasType FB.hasBase) (I.ok.hd hc)
  (by rw[he];show (false || (backTo cpos (starEach es X.env)).any (·.1))=false;rw[hpl];rfl) hni (q5o I hg hm ⟨rfl,?_⟩ hdb)
 have hA:=ha cpos pins s σ H _ (I.wish _) h
 rw[show starEach (e :: es) X.nox.env=(false,eval e X.env) :: starEach es X.env from he]at hA
 rw[he]
 refine Calls.evalArgs_plain (wpAny_mono hA (fun us s2 ⟨vs,H2,I2,r,hz,hx⟩=> ?_) fun _ _ z=>z.elim)
 have I2:=I2.unwish
 refine⟨rfl,by rw[← r.length];exact hz,I2.bk _ _ hC,hN.keeps I2.bk,T.keeps I2.bk,fun h' ea mk=> ?_⟩
 obtain⟨cv,st,fu⟩:=qff fx I2
 exact⟨ea,.ref C,σ,H2,rfl,I2.kept (t':=s2.toks) mk.keeps,.inl ⟨_,s2.heap,us,cv,mk,st,fu⟩,hx⟩
end
def qlo (wi:TI) (g:TG) (tb:TX):TX:=fun D xk σ H=>wi σ H fun J H1=>∃ W:Nat→Nat→St→Hp→Prop,(∃ m,W 0 m σ H1)∧∀ i m σ H,W i m σ H →
 (J.stop i H∧D.nx σ H)∨(J.go i H∧∃ N:St→Hp→Prop,(∀ σ' H',N σ' H'→∃ m',m' < m∧W (i + 1) m' σ' H')∧∀ x H',J.yld i H x H'→g x σ H' fun σ2 H2=>tb { D with nx:=N,ct:=N,bk:=D.nx } xk σ2 H2)
theorem PIE.unwish {X:Cx} {pins:List (Addr×Obj)} {σ:St} {tg:Expr} {R:It→Hp→Prop} {v:Value} {s:Shared} {E:Value→Shared→Prop} (h:PIE (X.wish E) pins σ tg R v s):PIE X pins σ tg R v s :=
 let ⟨it,fp,tn,J,H',e,I,T,st,f,r⟩:=h;⟨it,fp,tn,J,H',e,I.unwish,T,st,f,r⟩
theorem qjh {X:Cx} {tg iter:Expr} {body:List Stmt} {wi:TI} {g:TG} {tb:TX} {pos:Pos} (fx:FnCx X) (hc:X.calm=true) (hi:PI X.nox tg iter wi) (hg:PG X.nox tg g) (hb:PSXs X body tb)
  (hs:∀ x,foldedSetIterable iter X.env x=pure x:=by intro _;rfl):PSX X (.For tg iter body [] pos) (qlo wi g tb):=by
 intro pins s σ H D xk I h
 have hp:PassesOwn (model X.prog X.w) X.A X.env (XP X pins xk):=XP.passes fx I.ok.frames
 refine wpAny_For (wpAny_mono (hi pins s σ H _ (I.wish _) h) (fun v s1 h1=>wpAny_mono h1 (fun itv s2 h2=> ?_) fun _ _ z=>z.elim) fun _ _ z=>z.elim) hs
 obtain⟨it,fp,tn,J,H2,e,I2,T,st2,f2,W,⟨m0,w0⟩,turn⟩:=PIE.unwish h2
 subst e
 have stat:∀ {H':Hp},(∀ b ∈ fp,H' b=none)→∀ b ∈ fp,FpOk X pins H' b:=fun hn b hb=>⟨hn b hb,(f2 b hb).2⟩
 refine codeAny_forLoop_any (fun n s'=>∃ i σ' H',Inv X pins σ' H' s'∧tn i s'.heap∧(∀ b ∈ fp,H' b=none)∧W i n σ' H') ?_ m0 ⟨0,σ,H2,I2,st2,fun b hb=>(f2 b hb).1,w0⟩
 rintro n s3 ⟨i,σ3,H3,I3,st3,fr3,w3⟩
 rcases turn i n σ3 H3 w3 with ⟨stop,qn⟩ | ⟨go,N,hN,step⟩
 ·refine wpAny_passesOwn hp (thn (T.done X rfl rfl rfl hc i pins s3 σ3 H3 _ I3 (stat fr3) st3 stop) fun r s4 ⟨hr,I4⟩=> ?_)
  subst hr
  exact wpAny_execs_nil ⟨σ3,H3,I4,qn⟩
 ·refine wpAny_passesOwn hp (thn (T.item X rfl rfl rfl hc i pins s3 σ3 H3 _ I3 (stat fr3) st3 go) fun r s4 ⟨u,hr,h4⟩=> ?_)
  subst hr
  refine wpAny_passesOwn hp (thn h4 fun _ s5 ⟨x,H5,I5,r5,y5,st5,fr5⟩=> ?_)
  have I5':=I5.pinned (stat fr5) (T.obj _ _ st5)
  refine wpAny_mono (hg _ s5 σ3 H5 x u _ (I5'.wish _) r5 (step x H5 y5)) (fun _ s6 ⟨σ6,H6,I6,q6⟩=> ?_) fun _ _ z=>z.elim
  refine wpAny_passesOwn hp (wpAny_mono (hb _ s6 σ6 H6 _ xk I6.unwish q6) (fun f s7 q7=> ?_) fun _ _ z=>z.unpinned)
  have again:∀ {σ7:St} {H7:Hp},Inv X (pins ++ q6e fp s5.heap) σ7 H7 s7→N σ7 H7→∃ m,m < n∧∃ i σ' H',Inv X pins σ' H' s7∧tn i s7.heap∧(∀ b ∈ fp,H' b=none)∧W i m σ' H':=fun {σ7 H7} I7 n7=>by
   obtain⟨m',hm,w7⟩:=hN σ7 H7 n7
   refine⟨m',hm,i + 1,σ7,H7,I7.unpinned,T.keep _ _ _ st5 fun b hb o e=>(I7.pin (b,o) (List.mem_append_right _ (List.mem_append_right _ (q2n hb e)))).1,fun b hb=> ?_,w7⟩
   obtain⟨o,e,d⟩:=T.obj _ _ st5 b hb
   exact(I7.pin (b,o) (List.mem_append_right _ (List.mem_append_right _ (q2n hb e)))).2.1
  cases f with
  | next=>obtain⟨σ7,H7,I7,n7⟩:=q7;exact again I7 n7
  | cont=>obtain⟨σ7,H7,I7,n7⟩:=q7;exact again I7 n7
  | brk=>obtain⟨σ7,H7,I7,q7⟩:=q7;exact⟨σ7,H7,I7.unpinned,q7⟩
  | ret v=>obtain⟨x7,σ7,H7,I7,r7,q7⟩:=q7;exact⟨x7,σ7,H7,I7.unpinned,r7,q7⟩
section
variable {X:Cx} {pins:List (Addr×Obj)} {σ:St} {H:Hp} {s:Shared} {h':Heap} {e it:Addr}
end
end L2
end
section
namespace L2
open PySem PySem.Spec PyProof.Rows
structure XCls (K:PySem.W.Frag) (D:Addr):Prop where
 ga:PySem.W.findIn K (.ref D) "__getattribute__" = some (some (.builtin "BaseException.__getattribute__"))
 gn:PySem.W.findIn K (.ref D) "__getattr__" = some none
 cl:PySem.W.findIn K (.ref D) "__class__" = some (some (.builtin "object.__class__"))
 hn:PySem.W.specialIn K (.builtin "object.__class__") "__get__" = some (some (.builtin "getset_descriptor.__get__"))
 tk:PySem.W.takesIn K (.builtin "object.__class__")=some true
 mo:PySem.W.mroIn K D (.type "object")=some true
 mb:PySem.W.mroIn K D (.type "BaseException")=some true
 ty:PySem.W.typeIn K (.ref D)=some (.type "type")
theorem qis {K:PySem.W.Frag} {D:Addr} {b:Value} {r:Bool} (e:PySem.W.mroIn K D b=some r):∃ cd,PySem.W.clsIn K D=some cd:=let ⟨cd,a,_⟩:=Option.bind_eq_some_iff.mp e;⟨cd,a⟩
section
variable {prog:Program} {w:World} {A:Around} {E:Value→Shared→Prop} {s:Shared} {K:PySem.W.Frag} {x D:Addr} {ox:Obj}
theorem XCls.matches {C:Addr} {b:Bool} {Q:Bool→Shared→Prop} (Z:XCls K D) (ZC:XCls K C) (X:K.In s.heap) (I:PySem.W.InstAt s.heap x ox D none) (e:PySem.W.mroIn K D (.ref C)=some b) (h:Q b s):wpAny (model prog w) A (excMatches (.ref x) (.ref C)) Q E s:=by
 obtain⟨hh,g,d,t,os⟩:=s
 have L0:=I.type (M:=model prog w)
 have L1:=PySem.W.looks_typeIn (M:=model prog w) X ZC.ty
 have L2:=PySem.W.looks_mroIn (M:=model prog w) X ZC.mb
 have L3:=PySem.W.looks_mroIn (M:=model prog w) X e
 obtain⟨cdC,hcC⟩:=qis ZC.mo
 have L4:PySem.W.Looks (model prog w) hh (isType (.ref C)) true:=by
  unfold PySem.W.clsIn at hcC
  split at hcC
  ·rename_i c' d' cd' sl' ho
   intro A' Q' E' s' k q
   unfold isType loadHead
   exact wpAny_bind (wpAny_loadPart (k _ _ (X _ _ ho)) (wpAny_pure q))
  ·cases hcC
 have f:PySem.W.Looks (model prog w) hh (isSubtype (.type "type") (.type "tuple")) false:=PySem.W.Looks.of_pure tc_notTuple
 have LX:PySem.W.Looks (model prog w) hh (isExcClass (.ref C)) true:=by
  unfold isExcClass
  first | exact L4.andThen L2 | exact L2.andThen .now | exact L4.andThen (L2.andThen .now)
 unfold excMatches
 refine wpAny_bind ((L1.andThen f).at ?_)
 dsimp only
 rw[if_neg (by decide)]
 refine wpAny_bind (wpAny_pure ?_)
 simp only[List.forIn_cons,List.forIn_nil]
 refine wpAny_bind (wpAny_bind (wpAny_bind (LX.at ?_)))
 simp only[Bool.not_true,Bool.false_eq_true,if_false]
 refine wpAny_pure (wpAny_pure ?_)
 refine wpAny_bind (L0.at ?_)
 simp only[List.forIn_cons,List.forIn_nil]
 refine wpAny_bind (wpAny_bind (wpAny_bind (L3.at ?_)))
 cases b with
 | true=>exact wpAny_pure (wpAny_pure (wpAny_pure h))
 | false=>exact wpAny_pure (wpAny_pure (wpAny_pure h))
end
abbrev Cx.hnd (X:Cx) (ea:Addr):Cx:={ X with A:=X.A.mark (some (.ref ea)),calm:=false }
section
variable {X:Cx} {pins:List (Addr×Obj)} {σ:St} {H:Hp} {s:Shared} {ea:Addr}
theorem Cx.Ok.hnd (ok:X.Ok):(X.hnd ea).Ok:=⟨ok.mod,ok.kind,ok.glob,ok.blt,ok.above,ok.inj,ok.has,ok.cab,(fun z=>nomatch z),ok.frames,ok.stk,ok.exf,ok.bs,ok.bsz,ok.noex,ok.exfs,ok.funs,ok.frf⟩
theorem Inv.hnd (I:Inv X pins σ H s):Inv (X.hnd ea) pins σ H s:=⟨I.ok.hnd,I.os,I.bare,I.base,I.loc,I.cell,I.free,I.freeC,I.pin,I.hok,I.len⟩
theorem Inv.unhnd (ok:X.Ok) (I:Inv (X.hnd ea) pins σ H s):Inv X pins σ H s:=⟨ok,I.os,I.bare,I.base,I.loc,I.cell,I.free,I.freeC,I.pin,I.hok,I.len⟩
theorem SP.unhnd {D:Ends} {f:Flow} (ok:X.Ok) (h:SP (X.hnd ea) pins D f s):SP X pins D f s:=by
 cases f with
 | next=>obtain⟨σ',H',I,q⟩:=h;exact⟨σ',H',I.unhnd ok,q⟩
 | brk=>obtain⟨σ',H',I,q⟩:=h;exact⟨σ',H',I.unhnd ok,q⟩
 | cont=>obtain⟨σ',H',I,q⟩:=h;exact⟨σ',H',I.unhnd ok,q⟩
 | ret u=>obtain⟨v,σ',H',I,r,q⟩:=h;exact⟨v,σ',H',I.unhnd ok,r,q⟩
theorem XF.inst {D:Addr} {fl:Value} {B:Heap} (F:XF X pins ea (.ref D) fl H s B):∃ oe,PySem.W.InstAt s.heap ea oe D none:=by
 obtain⟨oe,vs,T,oT,ts,he,hc,hdd,hd,_⟩:=F.tr
 refine⟨oe,he,hc,?_,?_⟩
 ·unfold PySem.W.notCls;rw[hd]
 ·rw[hdd];trivial
end
abbrev TH:=Addr→TX
def PHX (X:Cx) (hs:List ExceptHandler) (t:TH):Prop :=
 ∀ (pins:List (Addr×Obj)) (s:Shared) (σ:St) (H:Hp) (D:Ends) (xk:XKs) (ea C:Addr) (B:Heap),Inv X pins σ H s→XF X pins ea (.ref C) .none H s B→t C D xk σ H→wpAny (model X.prog X.w) X.A (handleBy (.ref ea) X.env hs) (SP X pins D) (XP X pins xk) s
section
variable {X:Cx} {x:Str} {np pos:Pos} {C:Addr} {b0:Stmt} {body:List Stmt} {hs:List ExceptHandler} {t:Addr→TS} {th:TH}
theorem qjb:PHX X [] (fun _ _ _ _ _=>False):=fun _ _ _ _ _ _ _ _ _ _ _ h=>h.elim
theorem q9j (fx:FnCx X) (hm:X.mg x=some (.ref C)) (ZC:XCls X.K C) (hb:∀ ea,PSs (X.hnd ea).nox (b0 :: body) (t ea)) (hh:PHX X hs th) (hg:Gl X x:=by rfl) (hdb:(x == ("__debug__" : Str))=false:=by decide) :
  PHX X (.ExceptHandler (some (.Name x np)) none (b0 :: body) pos :: hs) (fun D E xk σ H=>XCls X.K D∧∃ b,PySem.W.mroIn X.K D (.ref C)=some b∧if b=true then (∀ ea,t ea E σ H) else th D E xk σ H):=by
 intro pins s σ H E xk ea D B I F ⟨ZD,b,eb,h⟩
 refine wpAny_handleBy_cons (codeAny_handlers_test (q5o (X:=X.hnd ea) I.hnd hg hm ?_ hdb)) (by intro q;cases q)
 obtain⟨ox,J⟩:=F.inst
 refine ZD.matches ZC I.kIn J eb ?_
 cases b with
 | false=>exact hh pins s σ H E xk ea D B I F h
 | true =>
  refine codeAny_handlers_suite (F.flight fx I fun h1 I1 F1=> ?_)
  exact wpAny_mono (hb ea pins _ σ H E (I1.hnd.wish _) (h ea)) (fun f s2 q=>SP.unhnd I.ok (SP.unwish q)) fun _ _ z=>z.elim
theorem qiw {h0:ExceptHandler} {bd:List Stmt} {tb:TX} (fx:FnCx X) (hb:PSXs X bd tb) (hh:PHX X (h0 :: hs) th):PSX X (.Try bd (h0 :: hs) [] [] pos) (fun D xk σ H=>tb D (fun σ' cls H'=>∃ C,cls= .ref C∧th C D xk σ' H') σ H):=by
 intro pins s σ H D xk I h
 refine wpAny_Try_except (wpAny_mono (hb pins s σ H D _ I h) (fun f s1 q=> ?_) fun e s1 q=> ?_)
 ·cases f with
  | next=>exact wpAny_execs_nil q
  | brk=>exact q
  | cont=>exact q
  | ret u=>exact q
 ·obtain⟨ea,cls,σ1,H1,rfl,I1,S,C,rfl,q⟩:=q
  exact XSt.note fx I1 S I.ok.frames fun h2 B I2 F2=>F2.flight fx I2 fun h3 I3 F3=>hh pins _ σ1 H1 D xk ea C B I3 F3 q
end
end L2
end
section
namespace L2
open PySem PySem.Spec PyProof.Rows
section
variable {K:PySem.W.Frag} {D C:Addr} {b:Bool} {T:String}
end
section
variable {X:Cx}
theorem q6x:∀ {ts:List String} {us:List Value},Vals (ts.map V.ty) us→us=ts.map Value.type
 | [],_,.nil=>rfl
 | a :: as,_,.cons r t=>by rw[List.map_cons,q6x t];exact congrArg (· :: _) r
theorem qeg:q44 X (.builtin "isinstance") (fun xs H Q=>∃ (a tp:Addr) (ys:List V) (ts:List String) (b:Bool),xs=[.ref a,.ref tp]∧H a=some (.tup ys)∧H tp=some (.tup (ts.map V.ty))∧PySem.W.kitAny X.K (.type "tuple") (ts.map Value.type)=some b∧Q (.bl b) H):=by
 intro pins s σ H xs us Q I r h
 obtain⟨a,tp,ys,ts,b,rfl,ha,ht,e,q⟩:=h
 obtain⟨u,w',rfl,ru,rw⟩:=qg5 r
 obtain rfl:u=Value.ref a:=ru
 obtain rfl:w'=Value.ref tp:=rw
 obtain⟨_,_,_,o,h1,h2,_⟩:=(show q1n X.prog X.w H s.heap a (.tup ys) from I.hok a _ ha)
 obtain⟨_,its,rt,⟨c,dd,dt,sl⟩,h3,h4,n,h5⟩:=(show q1n X.prog X.w H s.heap tp (.tup (ts.map V.ty)) from I.hok tp _ ht)
 have ei:its=ts.map Value.type:=q6x rt
 subst ei
 dsimp only at h4 h5
 subst h4 h5
 exact PySem.W.kia_tup PySem.W.kitx_tuple I.kIn ⟨o,h1,h2⟩ h3 e (fun z=>nomatch z) fun tk=>⟨.bl b,H,I.tok tk,rfl,q⟩
theorem q5s:∀ {as:List Addr} {us:List Value},Vals (as.map V.ref) us→us=as.map Value.ref
 | [],_,.nil=>rfl
 | a :: as,_,.cons r t=>by rw[List.map_cons,q5s t];exact congrArg (· :: _) r
end
theorem FnOk.calm {P:Program} {w:World} {K:PySem.W.Frag} {mg:Str→Option Value} {base:Heap} {k:Nat} {f:Addr} {fd:FuncData} {ps:List Str} {sp sp':Sp} (F:FnOk P w K mg base (CX1 P w) k f fd ps sp)
  (h:∀ vs H Q E,sp' vs H Q E→sp vs H Q fun _ _ _=>False):FnOk P w K mg base CX0 k f fd ps sp' :=
 ⟨fun vs H Q E q=>F.len vs H Q _ (h vs H Q E q),fun A outer s H args us vs Q E hr e0 hb r hsp=>codeAny_mono (F.run A outer s H args us vs Q _ hr e0 hb r (h vs H Q E hsp)) fun r s' q=>by
  cases r with
  | error e=>obtain⟨_,_,_,_,_,_,_,_,_,_,_,_,_,_,_,_,z⟩:=q;exact z.elim
  | ok f=>cases f <;> exact q⟩
section
variable {X:Cx} {K:PySem.W.Frag}
theorem qi8 {es:List Expr} {k:Nat} {t:TGs} {n:Nat} {pos:Pos} (hK:X.K=K) (hc:X.calm=true) (h:PGs X es t)
  (hn:(assignEach es X.env).length=n:=by rfl) (hst:(assignEach es X.env).findIdx? (·.1)=none:=by rfl):PG X (.Tuple es k pos) (gTup K n t):=by subst hK;exact qal hc h hn hst
end
end L2
end
section
namespace L2
open PySem PySem.Spec PyProof.Rows
def qld (C:Addr) (m:Str) (sp:Sp) (ta:TE) (t:TA):TEx:=fun xk σ H Q=>ta σ H fun x H1=>∃ a dx fs,x= .ref a∧H1 a=some (.ins C dx fs)∧fs.lookup m=none∧t σ H1 fun vs H2=>sp (.ref a :: vs ++ []) H2 Q fun cls _ H3=>xk σ cls H3
section
variable {X:Cx} {k:Nat} {C:Addr} {ps:List Str} {sp:Sp} {x m:Str} {p pos apos:Pos} {e o:Expr} {es:List Expr} {ta:TE} {t:TA}
theorem q8g {pl:Sem Bool} (fx:FnCx X) (D:Md X.prog X.w X.K X.mg X.base (CX1 X.prog X.w) C k m ps sp) (hr:Room k X.A) (ho:PE X.nox o ta) (ha:PA X.nox (e :: es) t)
  (hst:starEach (e :: es) X.env=(false,eval e X.env) :: starEach es X.env:=by rfl) (hpl:(backTo pos (starEach es X.env)).any (·.1)=false:=by rfl)
  (ht:eval (.Call (.Attribute o m apos) (e :: es) [] pos) X.env=(do
   let ov ← eval o X.env
   standAt apos.atName
   let (f,first) ← holding [ov] (getMethod ov m pl)
   callWith pos f first (backTo pos (starEach (e :: es) X.env)) (backToKw pos (keywordEach [] X.env))):=by rfl) :
  PEX X (.Call (.Attribute o m apos) (e :: es) [] pos) (qld C m sp ta t):=by
 obtain⟨f,fd,hm,hb,F⟩:=D.ex
 intro pins s σ H Q xk I h
 refine PySem.W.methodCall_KW (pl:=pl) (wpAny_mono (ho pins s σ H _ (I.wish _) h) (fun u s1 ⟨x,H1,I1,rx,a,dx,fs,ex,ea,l,q⟩=> ?_) fun _ _ z=>z.elim) ht
 have I1:=I1.unwish
 subst ex
 obtain rfl:u=Value.ref a:=rx
 refine q3l I1 ea D.cl hm l ?_
 refine PySem.W.callWith_K (first:=[.ref a]) (h₀:=X.base) I.ok.mod.kin hm.kp (wpAny_mono (ha pos pins s1 σ H1 _ (I1.wish _) q) (fun us s2 ⟨vs,H2,I2,r,q2⟩=>⟨I2.unwish.kIn,?_⟩) fun _ _ z=>z.elim) hst hpl
 exact q9e (us:= .ref a :: us) (vs:= .ref a :: vs) F hr hb fx I2.unwish (.cons rfl r) q2
end
def isD:HO→Prop
 | .dK _=>True
 | .dT _=>True
 | _=>False
section
variable {X:Cx} {pins:List (Addr×Obj)} {σ:St} {H:Hp} {s:Shared} {d:Addr} {u v:HO}
end
end L2
end
section
namespace L2
open PySem PySem.Spec PyProof.Rows
section
variable {prog:Program} {w:World} {A:Around} {E:Value→Shared→Prop} {s:Shared} {it d:Addr} {od:Obj} {es:Array DictEntry} {i ep:Nat} {e:DictEntry} {ok ov:Value}
theorem qb4 {Q:Option Value→Shared→Prop} (hit:IsItemIter s.heap it d i es.size ep ok ov) (hod:s.heap.get? d=some od) (hdd:od.data= .dict es ep) (hx:es[i]? = some e)
  (k:∀ h',IsItemIterOut h' it d (i + 1) es.size ep e.key e.val s.heap.objs.size→h'.get? s.heap.objs.size=some { cls:= .type "tuple",data:= .seq #[e.key,e.val] }→h'.objs.size=s.heap.objs.size + 1→(∀ b o,b ≠ it→s.heap.get? b=some o→h'.get? b=some o)→Q (some (.ref s.heap.objs.size)) { s with heap:=h' }) :
  wpAny (model prog w) A (pyNext (.ref it)) Q E s:=by
 obtain⟨hp,g,dr,tk,os⟩:=s
 have hT:Shared.TypeIs ⟨hp,g,dr,tk,os⟩ (.ref it) "dict_itemiterator" := ⟨_,hit,rfl⟩
 have hi:i < es.size:=(Array.getElem?_eq_some_iff.mp hx).1
 unfold pyNext
 refine wpAny_bind (wpAny_attempt (wpAny_callSpecial?_slot (name:=Str.ofString "__next__") hT F.slot_dict_itemiterator_next (wpAny_call_entry F.slot_dict_itemiterator_next hT F.entry_dict_itemiterator_next ?_ (F.args_dict_itemiterator_next_1 _))))
 refine wpAny_bind (wpAny_pure (wpAny_bind (wpAny_bind ?_)))
 refine wpAny_bind (wpAny_typeNameOfWhole_itemiter hT (wpAny_pure (wpAny_bind (wpAny_fieldsOf hit rfl ?_))))
 have own:Builtin.Dict_items.ownsTuple "dict_itemiterator" = true:=by decide
 simp only[own,if_true]
 have nn:¬ (Value.ref d == Value.none)=true:=Bool.false_ne_true
 show wpAny _ _ (if (Value.ref d == Value.none)=true then _ else _) _ _ _
 rw[if_neg nn]
 refine wpAny_bind (wpAny_pure (wpAny_bind (wpAny_dictEntries hod hdd ?_)))
 rw[if_neg (by simp)]
 refine wpAny_bind (wpAny_pure (wpAny_bind (wpAny_dictEpoch hod hdd ?_)))
 rw[if_neg (by simp)]
 refine wpAny_pure ?_
 have n0:¬ ((i:Int) < 0):=by omega
 simp only[n0,if_false,Int.toNat_natCast,hx]
 refine wpAny_bind (wpAny_bind (wpAny_typeNameOfWhole_itemiter hT (wpAny_pure ?_)))
 refine wpAny_bind (wpAny_isOneOf_itemiter hT ?_)
 show wpAny _ _ (setField (.ref it) 3 (rawInt ((i:Int) + 1)) >>= _) _ _ _
 refine wpAny_bind (wpAny_setField_rec hit (by simp) fun h1 q1 b1=> ?_)
 have b1:Heap.SameBut it hp h1:=b1
 have q1:IsItemIter h1 it d (i + 1) es.size ep ok ov:=by
  have z:((i + 1:Nat):Int)=(i:Int) + 1:=by omega
  unfold IsItemIter
  rw[z]
  simpa [rawInt] using q1
 have hT1:Shared.TypeIs ⟨h1,g,dr,tk,os⟩ (.ref it) "dict_itemiterator" := ⟨_,q1,rfl⟩
 refine wpAny_bind (wpAny_holding (wpAny_bind (wpAny_isOneOf_itemiter hT1 (wpAny_bind (wpAny_isOneOf_itemiter hT1 ?_)))))
 show wpAny _ _ (Builtin.Dict_items.pairFromOwner (.ref it) 6 e.key e.val) _ _ _
 unfold Builtin.Dict_items.pairFromOwner
 refine wpAny_bind (wpAny_newTuple ?_)
 have z1:h1.objs.size=hp.objs.size:=b1.1
 have il:it < hp.objs.size:=Heap.lt_size hit
 have ne:hp.objs.size ≠ it:=Nat.ne_of_gt il
 have q2:IsItemIter (h1.push { cls:= .type "tuple",data:= .seq #[e.key,e.val] }) it d (i + 1) es.size ep ok ov:=Heap.get?_push_of_some _ q1
 have t2:(h1.push { cls:= .type "tuple",data:= .seq #[e.key,e.val] }).get? hp.objs.size=some { cls:= .type "tuple",data:= .seq #[e.key,e.val] }:=by rw[← z1];exact Heap.get?_push_size _ rfl
 have s2:(h1.push { cls:= .type "tuple",data:= .seq #[e.key,e.val] }).objs.size=hp.objs.size + 1:=by rw[Heap.size_push,z1]
 have k2:∀ b o,b ≠ it→hp.get? b=some o→(h1.push { cls:= .type "tuple",data:= .seq #[e.key,e.val] }).get? b=some o:=fun b o hb q=>Heap.get?_push_of_some _ (b1.extBut b o hb q)
 generalize h1.push { cls:= .type "tuple",data:= .seq #[e.key,e.val] }=h2 at q2 t2 s2 k2
 show wpAny _ _ (Builtin.Dict_items.ownedTupleIsFree (.ref it) >>= _) _ _ _
 rw[z1]
 refine wpAny_bind ?_
 unfold Builtin.Dict_items.ownedTupleIsFree
 refine wpAny_bind (wpAny_field q2 rfl (x:= .none) rfl (wpAny_pure ?_))
 simp only[if_true]
 refine wpAny_bind (wpAny_field q2 rfl (x:=ok) rfl (wpAny_bind (wpAny_field q2 rfl (x:=ov) rfl ?_)))
 refine wpAny_bind (wpAny_setField_rec q2 (by simp) fun h3 q3 b3=> ?_)
 have b3:Heap.SameBut it h2 h3:=b3
 have q3:IsItemIter h3 it d (i + 1) es.size ep e.key ov:=q3
 refine wpAny_bind (wpAny_setField_rec q3 (by simp) fun h4 q4 b4=> ?_)
 have b4:Heap.SameBut it h3 h4:=b4
 have q4:IsItemIter h4 it d (i + 1) es.size ep e.key e.val:=q4
 refine wpAny_bind (wpAny_setField_rec q4 (by simp) fun h5 q5 b5=> ?_)
 have b5:Heap.SameBut it h4 h5:=b5
 have q5:IsItemIterOut h5 it d (i + 1) es.size ep e.key e.val hp.objs.size:=q5
 refine wpAny_bind (wpAny_setField_rec q5 (by simp) fun h6 q6 b6=> ?_)
 have b6:Heap.SameBut it h5 h6:=b6
 have q6:IsItemIterOut h6 it d (i + 1) es.size ep e.key e.val hp.objs.size:=q6
 have kp:∀ b o,b ≠ it→h2.get? b=some o→h6.get? b=some o:=fun b o hb q=>b6.extBut b o hb (b5.extBut b o hb (b4.extBut b o hb (b3.extBut b o hb q)))
 refine wpAny_bind (wpAny_letGo (wpAny_pure (wpAny_pure ⟨_,rfl,wpAny_pure (k h6 q6 (kp _ _ ne t2) ?_ fun b o hb q=>kp b o hb (k2 b o hb q))⟩)))
 show h6.objs.size=hp.objs.size + 1
 rw[b6.1,b5.1,b4.1,b3.1,s2]
theorem qc4 {Q:Option Value→Shared→Prop} (hh:A.handled=none) (hit:IsItemIter s.heap it d i es.size ep ok ov) (hod:s.heap.get? d=some od) (hdd:od.data= .dict es ep) (hx:es.size≤i)
  (k:∀ h',Heap.ExtBut it s.heap h'→Q none { s with heap:=h' }):wpAny (model prog w) A (pyNext (.ref it)) Q E s:=by
 obtain⟨hp,g,dr,tk,os⟩:=s
 have hT:Shared.TypeIs ⟨hp,g,dr,tk,os⟩ (.ref it) "dict_itemiterator" := ⟨_,hit,rfl⟩
 unfold pyNext
 refine wpAny_bind (wpAny_attempt (wpAny_callSpecial?_slot (name:=Str.ofString "__next__") hT F.slot_dict_itemiterator_next (wpAny_call_entry F.slot_dict_itemiterator_next hT F.entry_dict_itemiterator_next ?_ (F.args_dict_itemiterator_next_1 _))))
 refine wpAny_bind (wpAny_pure (wpAny_bind (wpAny_bind ?_)))
 refine wpAny_bind (wpAny_typeNameOfWhole_itemiter hT (wpAny_pure (wpAny_bind (wpAny_fieldsOf hit rfl ?_))))
 have own:Builtin.Dict_items.ownsTuple "dict_itemiterator" = true:=by decide
 simp only[own,if_true]
 have nn:¬ (Value.ref d == Value.none)=true:=Bool.false_ne_true
 show wpAny _ _ (if (Value.ref d == Value.none)=true then _ else _) _ _ _
 rw[if_neg nn]
 refine wpAny_bind (wpAny_pure (wpAny_bind (wpAny_dictEntries hod hdd ?_)))
 rw[if_neg (by simp)]
 refine wpAny_bind (wpAny_pure (wpAny_bind (wpAny_dictEpoch hod hdd ?_)))
 rw[if_neg (by simp)]
 refine wpAny_pure ?_
 have n0:¬ ((i:Int) < 0):=by omega
 simp only[n0,if_false,Int.toNat_natCast,Array.getElem?_eq_none hx]
 refine wpAny_bind (wpAny_bind (wpAny_typeNameOfWhole_itemiter hT (wpAny_pure ?_)))
 show wpAny _ _ (setField (.ref it) 2 .none >>= _) _ _ _
 refine wpAny_bind (wpAny_setField hit rfl (by simp) ?_)
 show wpAny _ _ (newExc (.type "StopIteration") [] >>= _) _ _ _
 refine wpAny_bind ?_
 simp only[newExc,newTuple]
 refine wpAny_bind (wpAny_newObj_type ?_ (by size_fits))
 refine wpAny_bind (m:=firstArgMember _ _) (wpAny_of_eq (a:=Value.none) (by first | rfl | (simp only[firstArgMember];rfl)) (wpAny_newObj_type ?_ (by size_fits)))
 simp only[raiseNew]
 refine wpAny_bind (wpAny_handled ?_)
 rw[show A.in1.handled=none from hh]
 refine wpAny_bind (wpAny_pure (wpAny_throw ?_))
 refine wpAny_bind (wpAny_isInstance (T:= "StopIteration") (b:=true) ⟨_,Heap.get?_push_size _ rfl,rfl⟩ isSubtype_stop ?_)
 exact wpAny_pure (k _ (((Heap.SameBut.update ..).extBut.push _).push _))
theorem qbj {v:Addr} {Q:Value→Shared→Prop} (hv:s.heap.IsItemsView v d) (hod:s.heap.get? d=some od) (hdd:od.data= .dict es ep)
  (k:Q (.ref s.heap.objs.size) { s with heap:=s.heap.push { cls:= .type "dict_itemiterator",data:= .fields #[.none,.bool false,.ref d,.int 0 0,.int es.size 0,.int ep 0,.none,.none] } }):wpAny (model prog w) A (pyIter (.ref v)) Q E s:=by
 obtain⟨o,ho,hc,hd⟩:=id hv
 refine wpAny_pyIter_slot hv.typeIs F.slot_dict_items_iter (wpAny_call_entry F.slot_dict_items_iter hv.typeIs F.entry_dict_items_iter ?_ (F.args_dict_items_iter_1 _))
 unfold Builtin.«dict_items.__iter__»
 refine wpAny_bind (wpAny_pure (wpAny_bind ?_))
 unfold Builtin.Dict_items.dictOf
 refine wpAny_bind (wpAny_field ho hd (x:= .ref d) rfl (wpAny_pure (wpAny_bind ?_)))
 unfold Builtin.Dict_items.newIterator
 refine wpAny_bind (wpAny_dictEntries hod hdd (wpAny_bind (wpAny_dictEpoch hod hdd ?_)))
 have own:Builtin.Dict_items.ownsTuple "dict_itemiterator" = true:=by decide
 simp only[own,if_true]
 refine wpAny_newObj_type (wpAny_pure ⟨_,rfl,"dict_itemiterator",_,⟨_,Heap.get?_push_size _ rfl,rfl⟩,F.slot_dict_itemiterator_next.lookup,?_⟩)
  (by simp only[sizeOk,Builtin.Dict_items.ownedTupleFields,List.size_toArray,List.length_append,List.length_cons,List.length_nil,sizeLine_eq];omega)
 simpa [rawInt,Builtin.Dict_items.ownedTupleFields] using k
end
def q97 (H:Hp) (u:HO) (ps:List (V×V)):Prop:=match u with
 | .dK kvs=>ps=kvs.map fun p=>(kV p.1,p.2)
 | .dT kvs=>Paired (fun (kv:List Key×V) (p:V×V)=>(∃ q,p.1= .ref q∧H q=some (.tup (kv.1.map kV)))∧p.2=kv.2) kvs ps
 | _=>False
def qas (es:List DictEntry) (ps:List (V×V)):Prop:=Paired (fun (e:DictEntry) (p:V×V)=>RelV p.1 e.key∧RelV p.2 e.val) es ps
theorem qas.get:∀ {es:List DictEntry} {ps:List (V×V)} {i:Nat} {p:V×V},qas es ps→ps[i]? = some p→∃ e,es[i]? = some e∧RelV p.1 e.key∧RelV p.2 e.val
 | _,_,_,_,.nil,e=>by simp at e
 | _,_,0,_,.cons r _,e=>by simp at e;subst e;exact⟨_,rfl,r⟩
 | _,_,i + 1,p,.cons _ t,e=>by
  obtain⟨x,h1,h2⟩:=qas.get (i:=i) (p:=p) t (by simpa using e)
  exact⟨x,by simpa using h1,h2⟩
theorem qkp {P:Program} {w:World}:∀ {kvs:List (Key×V)} {vs:List (Key×Value)} {es:List DictEntry},KV kvs vs→Pairs (q1b P w) es vs→qas es (kvs.map fun (p:Key×V)=>(kV p.1,p.2))
 | _,_,_,.nil,.nil=> .nil
 | (k,v) :: kvs,_,_,.cons r t,.cons (e:=e) h1 h2 h3=>by
  refine .cons ⟨?_,?_⟩ (qkp t h3)
  ·have h1':q99 k e.key=true:=by
    have:=h1
    rw[← r.1]at this
    exact this
   rcases q1c h1' with ⟨i,t,z,y⟩ | ⟨x,t,z,y⟩
   ·rw[z];exact⟨t,y⟩
   ·rw[z];exact⟨t,y⟩
  ·rw[h2];exact r.2
theorem qku {P:Program} {w:World} {H:Hp}:∀ {kvs:List (List Key×V)} {xs:List (List Key×Addr×Value)},Paired (fun (p:List Key×V) (q:List Key×Addr×Value)=>p.1=q.1∧H q.2.1=some (.tup (p.1.map kV))∧RelV p.2 q.2.2) kvs xs →
  ∃ ps,q97 H (.dT kvs) ps∧qas (xs.map (entryOfKey (tupleKind (q1b P w)))) ps
 | _,_,.nil=>⟨[],.nil,.nil⟩
 | (k,v) :: kvs,(k',q,u) :: xs,.cons r t=>by
  obtain⟨ps,h1,h2⟩:=qku (P:=P) (w:=w) t
  exact⟨(.ref q,v) :: ps,.cons ⟨⟨q,rfl,r.2.1⟩,rfl⟩ h1,.cons ⟨rfl,r.2.2⟩ h2⟩
theorem qkn {P:Program} {w:World} {H:Hp} {h:Heap} {d:Addr} {u:HO} (ok:HOk P w H h) (hd:H d=some u) (hu:isD u):(d == sysModules)=false∧∃ o es ep ps,h.get? d=some o∧o.cls= .type "dict" ∧ o.dict=none∧o.data= .dict es ep∧q97 H u ps∧qas es.toList ps:=by
 cases u with
 | dK kvs =>
  obtain⟨_,lo,vs,kv,o,es,ep,ho,hx,hdd,hk,hp,hn⟩:=(show q1n P w H h d (.dK kvs) from ok d _ hd)
  exact⟨lo,o,es,ep,kvs.map (fun (p:Key×V)=>(kV p.1,p.2)),ho,hx.1,hx.2.1,hdd,rfl,qkp kv hp⟩
 | dT kvs =>
  obtain⟨_,lo,xs,pr,o,es,ep,ho,hx,hdd,he,hn⟩:=(show q1n P w H h d (.dT kvs) from ok d _ hd)
  obtain⟨ps,h1,h2⟩:=qku (P:=P) (w:=w) pr
  rw[← he]at h2
  exact⟨lo,o,es,ep,ps,ho,hx.1,hx.2.1,hdd,h1,h2⟩
 | _=>exact hu.elim
section
variable {X:Cx}
theorem q6w:MtR X "dict.items" (fun x vs H Q=>∃ d u,x= .ref d∧vs=[]∧H d=some u∧isD u∧∀ v,H v=none→Q (.ref v) (upd H v (.ext fun h=>h.IsItemsView v d))):=by
 intro pins s σ H x vs v us Q I rx rv h
 obtain⟨d,u,rfl,rfl,hd,hu,q⟩:=h
 cases rx
 have hus:=rv.zero
 subst hus
 obtain⟨lo,o,es,ep,ps,ho,hc,_⟩:=qkn I.hok hd hu
 have hT:s.TypeIs (.ref d) "dict" := ⟨o,ho,hc⟩
 refine wpAny_call (codeAny_call_builtin F.slot_dict_items.plain F.entry_dict_items (F.slot_dict_items.check _ _ _ _ _ _ _ _ hT (F.args_dict_items_1 _) ?_))
 unfold Builtin.«dict.items»
 refine wpAny_bind ?_
 unfold Builtin.Dict.noArgs
 refine wpAny_bind (wpAny_notOrdered_dict hT ?_)
 show wpAny _ _ (pure d) _ _ s
 refine wpAny_pure ?_
 show wpAny _ _ (Builtin.Dict.showsAll d >>= _) _ _ s
 unfold Builtin.Dict.showsAll
 rw[if_neg (by rw[lo];exact Bool.false_ne_true)]
 refine wpAny_bind (wpAny_pure (wpAny_bind (wpAny_newObj_type (wpAny_pure ?_))))
 have new:(s.heap.push { cls:= .type "dict_items",data:= .fields #[.ref d] }).IsItemsView s.heap.objs.size d:=⟨_,Heap.get?_push_size _ rfl,rfl,rfl⟩
 refine⟨.ref s.heap.objs.size,_,I.laid (t':=s.toks) (o:= .ext fun h=>h.IsItemsView s.heap.objs.size d) (fun b ob q=>Heap.get?_push_of_some _ q) (Nat.le_refl _) ⟨new,⟨_,Heap.get?_push_size _ rfl⟩,fun h1 h2 ⟨o,a,b⟩ k=>⟨o,k o a,b⟩⟩,rfl,q _ (I.hok.fresh (Nat.le_refl _))⟩
end
end L2
end
section
namespace L2
open PySem PySem.Spec PyProof.Rows
section
variable {X:Cx}
theorem qaa:∀ {ss:List Str} {us:List Value},Vals (ss.map V.str) us→StrsAre us ss
 | [],_,.nil=> .nil
 | x :: ss,_,.cons (b:=u) r t=>by
  obtain⟨k,rfl⟩:=r
  exact .cons x k (qaa t)
theorem q87:∀ {us:List Value} {ss:List Str},StrsAre us ss→Vals (ss.map V.str) us
 | _,_,.nil=> .nil
 | _,_,.cons _ k t=> .cons ⟨k,rfl⟩ (q87 t)
theorem q7n:q44 X (.builtin "sorted") (fun xs H Q=>∃ (l:Addr) (ss:List Str),xs=[.ref l]∧SqL X.K H l (ss.map V.str)∧ss.length < 64∧∀ p ss',H p=none→ss'.Perm ss→sortedS ss'=true→Q (.ref p) (upd H p (.lst (ss'.map V.str)))):=by
 intro pins s σ H xs us Q I r h
 obtain⟨l,ss,rfl,hq,hz,q⟩:=h
 obtain⟨u,rfl,ru⟩:=q5z r
 obtain rfl:u=Value.ref l:=ru
 obtain⟨its,rv,pl,_⟩:=I.list hq
 have hl:its.length=ss.length:=by have:=rv.length;simpa using this.symm
 refine sorted_strs pl.isList (qaa rv) (by omega) fun out ss' a1 a2 a3=> ?_
 obtain⟨e,he⟩:=sortedAll_at s.heap its out
 refine⟨.ref (s.heap.objs.size + 1),_,I.laid (t':=s.toks) (o:= .lst (ss'.map V.str)) (fun b o z=>sortedAll_old z) (Nat.le_succ _) ⟨?_,out.toList,e,q87 a1,he⟩,rfl,q _ ss' (I.hok.fresh (Nat.le_succ _)) a2 a3⟩
 rw[List.length_map,a2.length_eq]
 exact Nat.le_of_lt (Nat.lt_of_lt_of_le hz (by decide))
def repS (x:Str) (n:Int):Str:=if n < 1 then Str.empty else if (n == 1 || x.length == 0)=true then x else ⟨(List.replicate n.toNat x.cps).foldl (· ++ ·) #[]⟩
theorem q79 {α:Type} (a:Array α):∀ (n:Nat) (b:Array α),((List.replicate n a).foldl (· ++ ·) b).size=b.size + n * a.size
 | 0,b=>by simp
 | n + 1,b=>by
  rw[List.replicate_succ,List.foldl_cons,q79 a n,Array.size_append,Nat.succ_mul]
  omega
theorem q7a:OpR X (binaryOp .Mult) (fun x y H Q=>∃ (z:Str) (n:Int),x= .str z∧y= .int n∧ -1000≤n∧n≤1000∧z.length≤1000∧Q (.str (repS z n)) H):=by
 intro pins s σ H x y v u Q I rx ry h
 obtain⟨z,n,rfl,rfl,h1,h2,h3,q⟩:=h
 obtain⟨t,rfl⟩:=rx
 obtain⟨t',rfl⟩:=ry
 refine P.mul_str (by rw[Bool.or_eq_false_iff];exact⟨decide_eq_false (by omega),decide_eq_false (by omega)⟩) (fun hn _=> ?_) (fun hn _=> ?_) ?_
 ·have:(z.length:Int)≤1000:=by omega
  have h4:(1000:Int)≤(2 ^ 63 - 1) / n:=by
   apply Int.le_ediv_of_mul_le (by omega)
   have:1000 * n≤1000 * 1000:=by omega
   omega
  omega
 ·have h5:z.length * n.toNat≤1000 * 1000:=Nat.mul_le_mul h3 (by omega)
  have h6:sizeLine=16777216:=sizeLine_eq
  exact decide_eq_false (by omega)
 ·unfold repS at q
  split
  ·rename_i c
   rw[if_pos c]at q
   exact⟨by decide,.str _,H,I.tok _,⟨_,rfl⟩,q⟩
  ·rename_i c
   rw[if_neg c]at q
   split
   ·rename_i c2
    rw[if_pos c2]at q
    exact⟨.str _,H,I,⟨_,rfl⟩,q⟩
   ·rename_i c2
    rw[if_neg c2]at q
    refine⟨?_,.str _,H,I.tok _,⟨_,rfl⟩,q⟩
    have h6:sizeLine=16777216:=sizeLine_eq
    have h5:n.toNat * z.length≤1000 * 1000:=Nat.mul_le_mul (by omega) h3
    have h7:=q79 z.cps n.toNat #[]
    show ((List.replicate n.toNat z.cps).foldl (· ++ ·) #[]).size≤_
    rw[h7]
    have h8:n.toNat * z.cps.size≤1000 * 1000:=h5
    show 0 + n.toNat * z.cps.size≤_
    omega
theorem qcj:∀ {xs:List V} {us:List Value},xs.length=us.length→(∀ (j:Nat) u,us[j]? = some u→∃ x,xs[j]? = some x∧RelV x u)→Vals xs us
 | [],[],_,_=> .nil
 | [],_ :: _,h,_=>by simp at h
 | _ :: _,[],h,_=>by simp at h
 | x :: xs,u :: us,h,k=>by
  obtain⟨y,e,r⟩:=k 0 u rfl
  simp at e
  subst e
  exact .cons r (qcj (by simpa using h) fun j v e=>by simpa using k (j + 1) v (by simpa using e))
theorem qc1:∀ {kvs:List (Key×V)} {vs:List (Key×Value)} {j:Nat} {k:Key} {x:Value},KV kvs vs→vs[j]? = some (k,x)→∃ v,kvs[j]? = some (k,v)∧RelV v x
 | _,_,_,_,_,.nil,e=>by simp at e
 | (k',v') :: _,(k2,x2) :: _,0,k,x,.cons r _,e=>by
  simp at e
  obtain⟨rfl,rfl⟩:=e
  have h1:k'=k2:=r.1
  subst h1
  exact⟨v',rfl,r.2⟩
 | _,_,j + 1,k,x,.cons _ t,e=>by
  obtain⟨v,e1,r⟩:=qc1 (j:=j) t (by simpa using e)
  exact⟨v,by simpa using e1,r⟩
theorem q6d (hc:X.calm=true):q44 X (.type "list") (fun xs H Q=>∃ (d:Addr) (kvs:List (Key×V)),xs=[.ref d]∧H d=some (.dK kvs)∧∀ p,H p=none→Q (.ref p) (upd H p (.lst (kvs.map fun (q:Key×V)=>kV q.1)))):=by
 intro pins s σ H xs us Q I r h
 obtain⟨d,kvs,rfl,hd,q⟩:=h
 obtain⟨u,rfl,ru⟩:=q5z r
 obtain rfl:u=Value.ref d:=ru
 obtain⟨hz,lo,vs,kv,o,es,ep,ho,hx,hdd,hk,hp,hn⟩:=(show q1n X.prog X.w H s.heap d (.dK kvs) from I.hok d _ hd)
 have hl:vs.length=kvs.length:=(Paired.length kv).symm
 refine PySem.W.kdl_call (PySem.W.kdl_dict (knd:=q1b X.prog X.w) (kvs:=vs) (ep:=ep) lo) (I.ok.hd hc) ⟨o,es,ho,hx,hdd,hk,hp,hn⟩ (by rw[hl];exact hz) fun h' tk acc c kp hD hacc=> ?_
 have hv:Vals (kvs.map fun (q:Key×V)=>kV q.1) acc.toList:=by
  have h9:acc.toList.length=vs.length:=by simpa using hacc.1
  refine qcj (by rw[List.length_map,h9,hl]) fun j u e=> ?_
  obtain⟨k,x,e1,e2⟩:=hacc.2 j u (by rw[← Array.getElem?_toList];exact e)
  obtain⟨v,e3,_⟩:=qc1 kv e1
  refine⟨kV k,by rw[List.getElem?_map,e3];rfl,?_⟩
  rcases q1c e2 with ⟨i,t,z,y⟩ | ⟨x,t,z,y⟩
  ·rw[z];exact⟨t,y⟩
  ·rw[z];exact⟨t,y⟩
 refine⟨.ref s.heap.objs.size,_,I.laid (t':=tk) (o:= .lst (kvs.map fun (q:Key×V)=>kV q.1)) kp (Nat.le_refl _) ⟨by rw[List.length_map];exact hz,acc.toList,c,hv,by simpa using hD⟩,rfl,q _ (I.hok.fresh (Nat.le_refl _))⟩
end
end L2
end
section
namespace L2
open PySem PySem.Spec PyProof.Rows
section
variable {X:Cx} {tg:Expr}
end
section
variable {X:Cx}
end
end L2
end
section
namespace L2
open PySem PySem.Spec PyProof.Rows
section
variable {prog:Program} {w:World} {A:Around} {R:Result→Shared→Prop} {s:Shared}
end
section
variable {X:Cx} {k:Nat} {ps:List Str} {sp:Sp} {x:Str} {p pos:Pos} {e:Expr} {es:List Expr} {t:TA}
end
section
variable {X:Cx} {pins:List (Addr×Obj)} {σ:St} {H:Hp} {s:Shared} {ea:Addr} {cls fl:Value} {B h':Heap} {C:Addr}
end
section
variable {X:Cx} {elt target iter:Expr} {ifs:List Expr} {scope:Scope} {cl:List (Str×Addr)} {pos spos py:Pos} {NB:List Str} {ix:List (Option Nat)} {wi:TI} {g:TG} {tc:TT} {te:TEb}
end
end L2
end
section
namespace L2
open PySem PySem.Spec PyProof.Rows
section
variable {X:Cx} {k:Nat} {C:Addr} {ps:List Str} {sp:Sp} {x m:Str} {p pos apos:Pos} {e o:Expr} {es:List Expr} {to:TEx} {t:TA}
def qjs (C:Addr) (m:Str) (sp:Sp) (to:TEx) (t:TA):TEx:=fun xk σ H Q=>to xk σ H fun x H1=>∃ a dx fs,x= .ref a∧H1 a=some (.ins C dx fs)∧fs.lookup m=none∧t σ H1 fun vs H2=>sp (.ref a :: vs ++ []) H2 Q fun cls _ H3=>xk σ cls H3
theorem qhu {pl:Sem Bool} (fx:FnCx X) (D:Md X.prog X.w X.K X.mg X.base CX0 C k m ps sp) (hr:Room k X.A) (ho:PEX X o to) (ha:PA X.nox (e :: es) t)
  (hst:starEach (e :: es) X.env=(false,eval e X.env) :: starEach es X.env:=by rfl) (hpl:(backTo pos (starEach es X.env)).any (·.1)=false:=by rfl)
  (ht:eval (.Call (.Attribute o m apos) (e :: es) [] pos) X.env=(do
   let ov ← eval o X.env
   standAt apos.atName
   let (f,first) ← holding [ov] (getMethod ov m pl)
   callWith pos f first (backTo pos (starEach (e :: es) X.env)) (backToKw pos (keywordEach [] X.env))):=by rfl) :
  PEX X (.Call (.Attribute o m apos) (e :: es) [] pos) (qjs C m sp to t):=by
 obtain⟨f,fd,hm,hb,F⟩:=D.ex
 intro pins s σ H Q xk I h
 refine PySem.W.methodCall_KW (pl:=pl) (wpAny_mono (ho pins s σ H _ xk I h) (fun u s1 ⟨x,H1,I1,rx,a,dx,fs,ex,ea,l,q⟩=> ?_) fun _ _ z=>z) ht
 subst ex
 obtain rfl:u=Value.ref a:=rx
 refine q3l I1 ea D.cl hm l ?_
 refine PySem.W.callWith_K (first:=[.ref a]) (h₀:=X.base) I.ok.mod.kin hm.kp (wpAny_mono (ha pos pins s1 σ H1 _ (I1.wish _) q) (fun us s2 ⟨vs,H2,I2,r,q2⟩=>⟨I2.unwish.kIn,?_⟩) fun _ _ z=>z.elim) hst hpl
 exact q9e (us:= .ref a :: us) (vs:= .ref a :: vs) F.lift hr hb fx I2.unwish (.cons rfl r) q2
end
def qkd (t:TEx):TX:=fun D xk σ H=>t xk σ H fun _ H1=>D.nx σ H1
theorem q81 {X:Cx} {e:Expr} {pos:Pos} {t:TEx} (he:PEX X e t) (hs:swapsWith e none pos.line X.env=pure false:=by rfl):PSX X (.Expr e pos) (qkd t):=qg8 he hs
theorem qdn {K:PySem.W.Frag} {a:Addr} {xs:List V} {g:TG} {tb:TX} {D:Ends} {xk:XKs} {σ:St} {H:Hp} (Pv:Nat→St→Hp→Prop) (h0:Pv 0 σ H) (hl:∀ i σ H,i≤xs.length→Pv i σ H→SqL K H a xs)
  (hs:∀ i x σ H,xs[i]? = some x→Pv i σ H→g x σ H fun σ2 H2=>tb { D with nx:=Pv (i + 1),ct:=Pv (i + 1),bk:=D.nx } xk σ2 H2) (hd:∀ σ H,Pv xs.length σ H→D.nx σ H) :
  ∃ W:Nat→Nat→St→Hp→Prop,(∃ m,W 0 m σ H)∧∀ i m σ H,W i m σ H →
   ((Itl K a).stop i H∧D.nx σ H)∨((Itl K a).go i H∧∃ N:St→Hp→Prop,(∀ σ' H',N σ' H'→∃ m',m' < m∧W (i + 1) m' σ' H')∧∀ x H',(Itl K a).yld i H x H'→g x σ H' fun σ2 H2=>tb { D with nx:=N,ct:=N,bk:=D.nx } xk σ2 H2) :=
 q25 (tb:=fun D' σ' H'=>tb D' xk σ' H') Pv h0 hl hs hd
theorem q4e {K:PySem.W.Frag} {j:Nat} {ix:List (Option Nat)} {g:TG} {tc:TT} {te:TE} {σ:St} {H:Hp} {a:Addr} {xs:List V} {Q:VK} (hv:σ[j]? = some (some (.ref a))) (hq:SqL K H a xs)
  (h:∀ D0,H D0=none→∃ Pv:Nat→St→List V→Hp→Prop,Pv 0 (q6v ix σ) [] (upd H D0 (.lst []))∧(∀ i σ ys H,i≤xs.length→Pv i σ ys H→SqL K H a xs∧H D0=some (.lst ys)) ∧
   (∀ i x σ ys H,xs[i]? = some x→Pv i σ ys H→g x σ H fun σ2 H2=>tc σ2 H2 fun b H3 =>
    if b=true then te σ2 H3 fun y H4=>H4 D0=some (.lst ys)∧ys.length < sizeLine∧Pv (i + 1) σ2 (ys ++ [y]) (upd H4 D0 (.lst (ys ++ [y]))) else Pv (i + 1) σ2 ys H3) ∧
   ∀ σ' ys H',Pv xs.length σ' ys H'→Q (.ref D0) H'):qax (qee K (tVar j)) ix g tc te σ H Q :=
 ⟨.ref a,hv,a,rfl,⟨xs,hq⟩,fun D0 hD=>let ⟨Pv,h0,h1,h2,h3⟩:=h D0 hD;q2r (Q:=Q) Pv h0 h1 h2 h3⟩
end L2
end
section
namespace L2
open PySem PySem.Spec PyProof.Rows
section
variable {X:Cx} {pins:List (Addr×Obj)} {σ:St} {H:Hp} {s:Shared} {a:Addr} {o:HO}
theorem Inv.track (I:Inv X pins σ H s) (f:FpOk X pins H a) (new:q1n X.prog X.w (upd H a o) s.heap a o):Inv X pins σ (upd H a o) s:=by
 obtain⟨hn,nl,nf,na,nc,np⟩:=f
 refine⟨I.ok,I.os,I.bare,⟨I.base.keep,I.base.slot,fun b ob e n hx=> ?_,I.base.there,fun b xs e=> ?_,fun b ob u e=> ?_,fun b ps e=> ?_⟩,I.loc,I.cell,?_,fun x c e=> ?_,fun p hp=> ?_,fun b u e=> ?_,I.len⟩
 ·have nb:b ≠ a:=fun z=>by
   rcases na with y | y
   ·exact hx (by rw[z];exact y)
   ·have:=Heap.lt_size e
    rw[z]at this
    exact absurd (Nat.lt_of_lt_of_le this y) (Nat.lt_irrefl _)
  rw[q0b nb];exact I.base.free b ob e n hx
 ·rw[q0b (q0d (I.base.tups b xs e) hn)];exact I.base.tups b xs e
 ·rw[q0b (q0d (I.base.frzs b ob u e) hn)];exact I.base.frzs b ob u e
 ·obtain⟨more,q⟩:=I.base.tbls b ps e
  exact⟨more,by rw[q0b (q0d q hn)];exact q⟩
 ·rw[q0b (Ne.symm nl)];exact I.free
 ·rw[q0b (nc x c e)];exact I.freeC x c e
 ·obtain⟨a1,a2,a3⟩:=I.pin p hp
  exact⟨a1,by rw[q0b (np p hp)];exact a2,a3⟩
 ·by_cases hb:b=a
  ·subst hb
   rw[q03]at e
   cases e
   exact new
  ·rw[q0b hb]at e
   exact(I.hok b u e).stay (fun _ _ _ q=>q) (fun c q=>by rw[q0b (q0d q hn)];exact q) fun c xs q=>by rw[q0b (q0d q hn)];exact q
theorem Inv.trackT:∀ {as:List Addr} {ps:List (V×V)} {H:Hp},Inv X pins σ H s→as.length=ps.length→as.Nodup→(∀ a ∈ as,FpOk X pins H a) →
  (∀ (j:Nat) a p,as[j]? = some a→ps[j]? = some p→∃ u v,RelV p.1 u∧RelV p.2 v∧s.heap.get? a=some { cls:= .type "tuple",data:= .seq #[u,v] }) →
  ∃ H',Inv X pins σ H' s∧Kp [] H H'∧(∀ b,b ∉ as→H b=none→H' b=none)∧∀ (j:Nat) a p,as[j]? = some a→ps[j]? = some p→H' a=some (.tup [p.1,p.2])
 | [],_,H,I,_,_,_,_=>⟨H,I,Kp.refl _ _,fun _ _ h=>h,fun j a p e=>by simp at e⟩
 | a :: as,[],_,_,hl,_,_,_=>by simp at hl
 | a :: as,p :: ps,H,I,hl,nd,hf,hp=>by
  obtain⟨u,v,ru,rv,ho⟩:=hp 0 a p rfl rfl
  have fa:=hf a (.head _)
  have I1:Inv X pins σ (upd H a (.tup [p.1,p.2])) s:=I.track fa ⟨(by show 2≤sizeLine;decide),[u,v],.cons ru (.cons rv .nil),⟨_,ho,rfl,_,rfl⟩⟩
  rw[List.nodup_cons]at nd
  obtain⟨H',I',kp,fr,at'⟩:=Inv.trackT (as:=as) (ps:=ps) I1 (by simpa using hl) nd.2 (fun b hb=>⟨by rw[q0b (fun z=>nd.1 (by rw[← z];exact hb))];exact(hf b (.tail _ hb)).1,(hf b (.tail _ hb)).2⟩)
   fun j b q e1 e2=>hp (j + 1) b q (by simpa using e1) (by simpa using e2)
  refine⟨H',I',(Kp.new fa.1).trans kp,fun b hb hn=>fr b (fun z=>hb (.tail _ z)) (by rw[q0b (fun z=>hb (by rw[z];exact .head _))];exact hn),fun j b q e1 e2=> ?_⟩
  cases j with
  | zero =>
   simp at e1 e2
   subst e1 e2
   exact kp.get q03 nEm
  | succ j=>exact at' j b q (by simpa using e1) (by simpa using e2)
end
structure Itms (H:Hp) (as:List Addr) (kvs:List (Key×V)):Prop where
 len:as.length=kvs.length
 at_:∀ (j:Nat) a kv,as[j]? = some a→kvs[j]? = some kv→H a=some (.tup [kV kv.1,kv.2])
theorem q4l:∀ {as:List Addr},as.Pairwise (· < ·)→as.Nodup
 | [],_=>List.nodup_nil
 | a :: as,h=>by
  rw[List.pairwise_cons]at h
  rw[List.nodup_cons]
  exact⟨fun z=>Nat.lt_irrefl _ (h.1 a z),q4l h.2⟩
theorem q4i:∀ (as:List Addr),Vals (as.map V.ref) (as.map Value.ref)
 | []=> .nil
 | a :: as=> .cons rfl (q4i as)
section
variable {X:Cx}
theorem q6c {pins:List (Addr×Obj)} {σ:St} {H:Hp} {s:Shared} {kvs:List (Key×V)} {vs:List (Key×Value)} {h':Heap} {tk:Nat} {lo:Addr} {as:List Addr} (I:Inv X pins σ H s) (kv:KV kvs vs) (hs:s.heap.objs.size≤lo) (kp:∀ b o,s.heap.get? b=some o→h'.get? b=some o)
  (hl:as.length=vs.length) (G:PySem.W.KdxG (q1b X.prog X.w) vs lo h' as):∃ H',Inv X pins σ H' { s with heap:=h',toks:=tk }∧Kp [] H H'∧Itms H' as kvs∧∀ b,b ∉ as→H b=none→H' b=none:=by
 have I1:Inv X pins σ H { s with heap:=h',toks:=tk }:=I.kept kp
 have hk:as.length=(kvs.map fun (p:Key×V)=>(kV p.1,p.2)).length:=by rw[List.length_map,hl,Paired.length kv]
 obtain⟨H',I',k',fr,at'⟩:=Inv.trackT (ps:=kvs.map fun (p:Key×V)=>(kV p.1,p.2)) I1 hk (q4l G.rise) (fun a ha=>I.fpOk (Nat.le_trans hs (Nat.le_of_lt (G.above a ha))) (I.hok.fresh (Nat.le_trans hs (Nat.le_of_lt (G.above a ha))))) (fun j a p e1 e2=>by
  rw[List.getElem?_map]at e2
  cases e3:kvs[j]? with
  | none=>rw[e3]at e2;cases e2
  | some q =>
   rw[e3]at e2
   cases e2
   obtain⟨key,k,x,e4,e5,e6⟩:=G.pairs j a e1
   obtain⟨v,e7,r⟩:=qc1 kv e4
   rw[e3]at e7
   cases e7
   refine⟨key,x,?_,r,e6⟩
   rcases q1c e5 with ⟨i,t,z,y⟩ | ⟨x,t,z,y⟩
   ·rw[z];exact⟨t,y⟩
   ·rw[z];exact⟨t,y⟩)
 refine⟨H',I',k',⟨by rw[hk,List.length_map],fun j a q e1 e2=> ?_⟩,fr⟩
 exact at' j a (kV q.1,q.2) e1 (by rw[List.getElem?_map,e2];rfl)
theorem qar (hc:X.calm=true):q44 X (.type "list") (fun xs H Q=>∃ (v d:Addr) (kvs:List (Key×V)),xs=[.ref v]∧H v=some (.ext fun h=>h.IsItemsView v d)∧H d=some (.dK kvs) ∧
  ∀ p as H',H p=none→H' p=some (.lst (as.map V.ref))→Itms H' as kvs→Kp [] H H'→Q (.ref p) H'):=by
 intro pins s σ H xs us Q I r h
 obtain⟨v,d,kvs,rfl,hv,hd,q⟩:=h
 obtain⟨u,rfl,ru⟩:=q5z r
 obtain rfl:u=Value.ref v:=ru
 obtain⟨vw,_⟩:=I.hok v _ hv
 obtain⟨hz,lo,vs,kv,o,es,ep,ho,hx,hdd,hk,hp,hn⟩:=(show q1n X.prog X.w H s.heap d (.dK kvs) from I.hok d _ hd)
 have hl:vs.length=kvs.length:=(Paired.length kv).symm
 refine PySem.W.kdx_call (knd:=q1b X.prog X.w) (kvs:=vs) (ep:=ep) (I.ok.hd hc) vw ⟨o,es,ho,hx,hdd,hk,hp,hn⟩ (by rw[hl];exact hz) fun h' tk acc c as kp hS hlen G hacc=> ?_
 obtain⟨H',I',k',T,fr⟩:=q6c (tk:=tk) I kv (Nat.le_refl _) kp hlen G
 have nS:s.heap.objs.size ∉ as:=fun z=>absurd (G.above _ z) (Nat.lt_irrefl _)
 have fS:FpOk X pins H' s.heap.objs.size:=I.fpOk (Nat.le_refl _) (fr _ nS (I.hok.fresh (Nat.le_refl _)))
 have hv':Vals (as.map V.ref) acc.toList:=by rw[hacc];exact q4i as
 have I2:Inv X pins σ (upd H' s.heap.objs.size (.lst (as.map V.ref))) { s with heap:=h',toks:=tk }:=I'.track fS ⟨by rw[List.length_map,hlen,hl];exact hz,acc.toList,c,hv',by simpa using hS⟩
 refine⟨.ref s.heap.objs.size,_,I2,rfl,q _ as _ (I.hok.fresh (Nat.le_refl _)) q03 ⟨T.len,fun j a kv e1 e2=> ?_⟩ (k'.trans (Kp.new fS.1))⟩
 rw[q0b (q0d (T.at_ j a kv e1 e2) fS.1)]
 exact T.at_ j a kv e1 e2
end
section
variable {prog:Program} {w:World} {A:Around} {E:Value→Shared→Prop} {s:Shared}
theorem qbp {a:Addr} {us:List Value} {n:Nat} {G:PySem.Fin→Shared→Prop} (ho:s.heap.get? a=some (seqObj "list" us.toArray n)) (hs:us.length < 2)
  (k:∀ h' c,(∀ b ob,b ≠ a→s.heap.get? b=some ob→h'.get? b=some ob)→h'.get? a=some (seqObj "list" us.toArray c)→G (.done (.ret .none)) { s with heap:=h' }) :
  wpAny (model prog w) A (Builtin.«list.sort» ⟨[.ref a],[]⟩) G E s:=by
 have lt:a < s.heap.objs.size:=Heap.lt_size ho
 have z:us.toArray.size < 2:=by simpa using hs
 rw[list_sort_plain]
 refine wpAny_bind (listItems_at ho rfl (wpAny_bind (listUpdate_at ho rfl ?_ (by simp;exact Nat.le_trans (Nat.le_of_lt hs) (by decide)) (Nat.zero_le _))))
 have g1:=get?_update_seq ho (fun _=>(#[]:Array Value))
 have b1:=Heap.SameBut.update s.heap a (Obj.mapSeq fun _=>(#[]:Array Value))
 generalize s.heap.update a (Obj.mapSeq fun _=>(#[]:Array Value))=g at g1 b1
 refine wpAny_bind (seqEpoch_at g1 rfl (wpAny_bind (wpAny_newTuple (wpAny_bind (wpAny_newList (wpAny_holding ?_))))))
 rw[if_pos z,if_pos z]
 refine wpAny_bind (wpAny_pure ?_)
 dsimp only
 rw[StateT.run_pure]
 refine wpAny_bind (wpAny_pure ?_)
 dsimp only
 have ga:a < g.objs.size:=by rw[b1.1];exact lt
 have g2:=Heap.get?_push_of_some (seqObj "list" #[] 0) (Heap.get?_push_of_some (seqObj "tuple" us.toArray 0) g1)
 have kg:∀ b ob,b ≠ a→s.heap.get? b=some ob→((g.push (seqObj "tuple" us.toArray 0)).push (seqObj "list" #[] 0)).get? b=some ob:=fun b ob nb q=>Heap.get?_push_of_some _ (Heap.get?_push_of_some _ ((b1.2 b nb).trans q))
 have es:(us.toArray.zip us.toArray).map (·.2)=us.toArray:=by
  match us,hs with
  | [],_=>simp
  | [u],_=>simp
 have ef:arrOf (SortSt.mk' general' (us.toArray.zip us.toArray) #[] 7 none)=us.toArray.zip us.toArray:=rfl
 show wpAny (model prog w) A _ G E { s with heap:=(g.push (seqObj "tuple" us.toArray 0)).push (seqObj "list" #[] 0) }
 generalize (g.push (seqObj "tuple" us.toArray 0)).push (seqObj "list" #[] 0)=g' at g2 kg
 refine wpAny_bind (seqEpoch_at g2 rfl ?_)
 rw[ef,es]
 refine wpAny_bind (listUpdate_at g2 rfl ?_ (Nat.zero_le _) (by simp;exact Nat.le_trans (Nat.le_of_lt hs) (by decide)))
 have g3:=get?_update_seq g2 (fun _=>us.toArray)
 have b3:=Heap.SameBut.update g' a (Obj.mapSeq fun _=>us.toArray)
 simp only[bne_self_eq_false,Bool.false_eq_true,if_false]
 exact wpAny_pure (k _ _ (fun b ob nb q=>(b3.2 b nb).trans (kg b ob nb q)) g3)
end
section
variable {X:Cx}
end
section
variable {X:Cx} {K:PySem.W.Frag}
theorem qhj {e:Expr} {f:Str} {pos:Pos} {ta:TE} (hK:X.K=K) (he:PE X e ta) (hb:attributeBase e f X.env (eval e X.env)=eval e X.env):PE X (.Attribute e f pos) (tFld K ta f):=by subst hK;exact q1a he hb
theorem qj0 {T id:String} {name:Str} {o:Expr} {to:TE} {apos cpos:Pos} {r:V→List V→Hp→VK→Prop} (hK:X.K=K) (pa:PlainAttrs T) (slot:Slot T name id) (hty:typeOf (.builtin id)=pure (.type "method_descriptor")) (hm:MtR X id r) (ho:PE X o to)
  (hbase:attributeBase o name X.env (eval o X.env)=eval o X.env:=by rfl) (hline:(apos.endLine == cpos.line)=true:=by rfl):PE X (.Call (.Attribute o name apos) [] [] cpos) (tBM0 K T r to):=by subst hK;exact qbx pa slot hty hm ho hbase hline
end
section
variable {X:Cx}
def qlk (K:PySem.W.Frag):List V→Hp→VK→Prop:=fun xs H Q=>(∃ (a tp:Addr) (ys:List V) (ts:List String) (b:Bool),xs=[.ref a,.ref tp]∧H a=some (.tup ys)∧H tp=some (.tup (ts.map V.ty))∧PySem.W.kitAny K (.type "tuple") (ts.map Value.type)=some b∧Q (.bl b) H) ∨
 ∃ (a tp:Addr) (ys:List V) (ts:List String) (b:Bool),xs=[.ref a,.ref tp]∧H a=some (.lst ys)∧H tp=some (.tup (ts.map V.ty))∧PySem.W.kitAny K (.type "list") (ts.map Value.type)=some b∧Q (.bl b) H
theorem qay:q44 X (.builtin "isinstance") (qlk X.K):=by
 intro pins s σ H xs us Q I r h
 rcases h with h | h
 ·exact qeg pins s σ H xs us Q I r h
 obtain⟨a,tp,ys,ts,b,rfl,ha,ht,e,q⟩:=h
 obtain⟨u,w',rfl,ru,rw⟩:=qg5 r
 obtain rfl:u=Value.ref a:=ru
 obtain rfl:w'=Value.ref tp:=rw
 obtain⟨_,_,_,_,h1⟩:=(show q1n X.prog X.w H s.heap a (.lst ys) from I.hok a _ ha)
 obtain⟨_,its,rt,⟨c,dd,dt,sl⟩,h3,h4,n,h5⟩:=(show q1n X.prog X.w H s.heap tp (.tup (ts.map V.ty)) from I.hok tp _ ht)
 have ei:its=ts.map Value.type:=q6x rt
 subst ei
 dsimp only at h4 h5
 subst h4 h5
 exact PySem.W.kia_tup PySem.W.kitx_list I.kIn ⟨_,h1,rfl⟩ h3 e (fun z=>nomatch z) fun tk=>⟨.bl b,H,I.tok tk,rfl,q⟩
end
end L2
end
section
namespace L2
open PySem PySem.Spec PyProof.Rows
section
variable {prog:Program} {w:World} {A:Around} {E:Value→Shared→Prop} {s:Shared} {it d a:Addr} {od oa:Obj} {es:Array DictEntry} {i ep:Nat} {e:DictEntry} {ok ov:Value} {f:Bool}
theorem qe2 {Q:Option Value→Shared→Prop} (hit:PySem.W.KdxIt s.heap it d i es.size ep ok ov a f) (ha:s.heap.get? a=some oa) (na:a ≠ it) (hod:s.heap.get? d=some od) (hdd:od.data= .dict es ep) (hx:es[i]? = some e)
  (k:∀ h',PySem.W.KdxIt h' it d (i + 1) es.size ep ok ov a true→h'.get? s.heap.objs.size=some { cls:= .type "tuple",data:= .seq #[e.key,e.val] }→h'.objs.size=s.heap.objs.size + 1→(∀ b o,b ≠ it→s.heap.get? b=some o→h'.get? b=some o)→Q (some (.ref s.heap.objs.size)) { s with heap:=h' }) :
  wpAny (model prog w) A (pyNext (.ref it)) Q E s:=by
 obtain⟨hp,g,dr,tk,os⟩:=s
 have hT:Shared.TypeIs ⟨hp,g,dr,tk,os⟩ (.ref it) "dict_itemiterator" := ⟨_,hit,rfl⟩
 have hi:i < es.size:=(Array.getElem?_eq_some_iff.mp hx).1
 unfold pyNext
 refine wpAny_bind (wpAny_attempt (wpAny_callSpecial?_slot (name:=Str.ofString "__next__") hT F.slot_dict_itemiterator_next (wpAny_call_entry F.slot_dict_itemiterator_next hT F.entry_dict_itemiterator_next ?_ (F.args_dict_itemiterator_next_1 _))))
 refine wpAny_bind (wpAny_pure (wpAny_bind (wpAny_bind ?_)))
 refine wpAny_bind (wpAny_typeNameOfWhole_itemiter hT (wpAny_pure (wpAny_bind (wpAny_fieldsOf hit rfl ?_))))
 have own:Builtin.Dict_items.ownsTuple "dict_itemiterator" = true:=by decide
 simp only[own,if_true]
 have nn:¬ (Value.ref d == Value.none)=true:=Bool.false_ne_true
 show wpAny _ _ (if (Value.ref d == Value.none)=true then _ else _) _ _ _
 rw[if_neg nn]
 refine wpAny_bind (wpAny_pure (wpAny_bind (wpAny_dictEntries hod hdd ?_)))
 rw[if_neg (by simp)]
 refine wpAny_bind (wpAny_pure (wpAny_bind (wpAny_dictEpoch hod hdd ?_)))
 rw[if_neg (by simp)]
 refine wpAny_pure ?_
 have n0:¬ ((i:Int) < 0):=by omega
 simp only[n0,if_false,Int.toNat_natCast,hx]
 refine wpAny_bind (wpAny_bind (wpAny_typeNameOfWhole_itemiter hT (wpAny_pure ?_)))
 refine wpAny_bind (wpAny_isOneOf_itemiter hT ?_)
 show wpAny _ _ (setField (.ref it) 3 (rawInt ((i:Int) + 1)) >>= _) _ _ _
 refine wpAny_bind (wpAny_setField_rec hit (by simp) fun h1 q1 b1=> ?_)
 have b1:Heap.SameBut it hp h1:=b1
 have q1:PySem.W.KdxIt h1 it d (i + 1) es.size ep ok ov a f:=by
  have z:((i + 1:Nat):Int)=(i:Int) + 1:=by omega
  unfold PySem.W.KdxIt
  rw[z]
  simpa [rawInt] using q1
 have hT1:Shared.TypeIs ⟨h1,g,dr,tk,os⟩ (.ref it) "dict_itemiterator" := ⟨_,q1,rfl⟩
 refine wpAny_bind (wpAny_holding (wpAny_bind (wpAny_isOneOf_itemiter hT1 (wpAny_bind (wpAny_isOneOf_itemiter hT1 ?_)))))
 show wpAny _ _ (Builtin.Dict_items.pairFromOwner (.ref it) 6 e.key e.val) _ _ _
 unfold Builtin.Dict_items.pairFromOwner
 refine wpAny_bind (wpAny_newTuple ?_)
 have z1:h1.objs.size=hp.objs.size:=b1.1
 have ne:hp.objs.size ≠ it:=Nat.ne_of_gt (Heap.lt_size hit)
 have q2:PySem.W.KdxIt (h1.push { cls:= .type "tuple",data:= .seq #[e.key,e.val] }) it d (i + 1) es.size ep ok ov a f:=Heap.get?_push_of_some _ q1
 have t2:(h1.push { cls:= .type "tuple",data:= .seq #[e.key,e.val] }).get? hp.objs.size=some { cls:= .type "tuple",data:= .seq #[e.key,e.val] }:=by rw[← z1];exact Heap.get?_push_size _ rfl
 have s2:(h1.push { cls:= .type "tuple",data:= .seq #[e.key,e.val] }).objs.size=hp.objs.size + 1:=by rw[Heap.size_push,z1]
 have k2:∀ b o,b ≠ it→hp.get? b=some o→(h1.push { cls:= .type "tuple",data:= .seq #[e.key,e.val] }).get? b=some o:=fun b o hb q=>Heap.get?_push_of_some _ (b1.extBut b o hb q)
 generalize h1.push { cls:= .type "tuple",data:= .seq #[e.key,e.val] }=h2 at q2 t2 s2 k2
 show wpAny _ _ (Builtin.Dict_items.ownedTupleIsFree (.ref it) >>= _) _ _ _
 rw[z1]
 have last:∀ h3:Heap,PySem.W.KdxIt h3 it d (i + 1) es.size ep ok ov a true→Heap.SameBut it h2 h3→Q (some (.ref hp.objs.size)) ⟨h3,g,dr,tk,os⟩:=fun h3 q3 b3 =>
  k h3 q3 (b3.extBut _ _ ne t2) (b3.1.trans s2) fun b o hb q=>b3.extBut b o hb (k2 b o hb q)
 refine wpAny_bind ?_
 unfold Builtin.Dict_items.ownedTupleIsFree
 refine wpAny_bind (wpAny_field q2 rfl (x:=rawInt a) rfl ?_)
 show wpAny _ _ (loadIfAlive ((a:Int).toNat) >>= _) _ _ _
 rw[Int.toNat_natCast]
 refine wpAny_bind (PySem.W.kdx_alive (k2 a oa na ha) ?_)
 simp only[Option.isNone_some,Bool.false_eq_true,if_false]
 refine wpAny_bind (wpAny_field q2 rfl (x:= .bool f) rfl ?_)
 cases f with
 | true =>
  have c1:¬ (Value.bool true != Value.bool true)=true:=Bool.false_ne_true
  rw[if_neg c1]
  refine wpAny_pure ?_
  simp only[Bool.false_eq_true,if_false]
  exact wpAny_pure (wpAny_pure ⟨_,rfl,wpAny_pure (last h2 q2 (Heap.SameBut.refl _ _))⟩)
 | false =>
  have c0:(Value.bool false != Value.bool true)=true:=rfl
  rw[if_pos c0]
  refine wpAny_bind (wpAny_setField_rec q2 (by simp) fun h3 q3 b3=> ?_)
  have b3:Heap.SameBut it h2 h3:=b3
  have q3:PySem.W.KdxIt h3 it d (i + 1) es.size ep ok ov a true:=q3
  refine wpAny_pure ?_
  simp only[Bool.false_eq_true,if_false]
  exact wpAny_pure (wpAny_pure ⟨_,rfl,wpAny_pure (last h3 q3 b3)⟩)
theorem qch {Q:Option Value→Shared→Prop} (hh:A.handled=none) (hit:PySem.W.KdxIt s.heap it d i es.size ep ok ov a f) (hod:s.heap.get? d=some od) (hdd:od.data= .dict es ep) (hx:es.size≤i)
  (k:∀ h',Heap.ExtBut it s.heap h'→Q none { s with heap:=h' }):wpAny (model prog w) A (pyNext (.ref it)) Q E s:=by
 obtain⟨hp,g,dr,tk,os⟩:=s
 have hT:Shared.TypeIs ⟨hp,g,dr,tk,os⟩ (.ref it) "dict_itemiterator" := ⟨_,hit,rfl⟩
 unfold pyNext
 refine wpAny_bind (wpAny_attempt (wpAny_callSpecial?_slot (name:=Str.ofString "__next__") hT F.slot_dict_itemiterator_next (wpAny_call_entry F.slot_dict_itemiterator_next hT F.entry_dict_itemiterator_next ?_ (F.args_dict_itemiterator_next_1 _))))
 refine wpAny_bind (wpAny_pure (wpAny_bind (wpAny_bind ?_)))
 refine wpAny_bind (wpAny_typeNameOfWhole_itemiter hT (wpAny_pure (wpAny_bind (wpAny_fieldsOf hit rfl ?_))))
 have own:Builtin.Dict_items.ownsTuple "dict_itemiterator" = true:=by decide
 simp only[own,if_true]
 have nn:¬ (Value.ref d == Value.none)=true:=Bool.false_ne_true
 show wpAny _ _ (if (Value.ref d == Value.none)=true then _ else _) _ _ _
 rw[if_neg nn]
 refine wpAny_bind (wpAny_pure (wpAny_bind (wpAny_dictEntries hod hdd ?_)))
 rw[if_neg (by simp)]
 refine wpAny_bind (wpAny_pure (wpAny_bind (wpAny_dictEpoch hod hdd ?_)))
 rw[if_neg (by simp)]
 refine wpAny_pure ?_
 have n0:¬ ((i:Int) < 0):=by omega
 simp only[n0,if_false,Int.toNat_natCast,Array.getElem?_eq_none hx]
 refine wpAny_bind (wpAny_bind (wpAny_typeNameOfWhole_itemiter hT (wpAny_pure ?_)))
 show wpAny _ _ (setField (.ref it) 2 .none >>= _) _ _ _
 refine wpAny_bind (wpAny_setField hit rfl (by simp) ?_)
 show wpAny _ _ (newExc (.type "StopIteration") [] >>= _) _ _ _
 refine wpAny_bind ?_
 simp only[newExc,newTuple]
 refine wpAny_bind (wpAny_newObj_type ?_ (by size_fits))
 refine wpAny_bind (m:=firstArgMember _ _) (wpAny_of_eq (a:=Value.none) (by first | rfl | (simp only[firstArgMember];rfl)) (wpAny_newObj_type ?_ (by size_fits)))
 simp only[raiseNew]
 refine wpAny_bind (wpAny_handled ?_)
 rw[show A.in1.handled=none from hh]
 refine wpAny_bind (wpAny_pure (wpAny_throw ?_))
 refine wpAny_bind (wpAny_isInstance (T:= "StopIteration") (b:=true) ⟨_,Heap.get?_push_size _ rfl,rfl⟩ isSubtype_stop ?_)
 exact wpAny_pure (k _ (((Heap.SameBut.update ..).extBut.push _).push _))
structure Laid (es:Array DictEntry) (lo:Addr) (h:Heap) (as:List Addr):Prop where
 rise:as.Pairwise (· < ·)
 above:∀ a ∈ as,lo < a
 at_:∀ (j:Nat) a,as[j]? = some a→∃ e,es[j]? = some e∧h.get? a=some { cls:= .type "tuple",data:= .seq #[e.key,e.val] }
theorem Laid.in {lo:Addr} {h:Heap} {as:List Addr} (L:Laid es lo h as) {b:Addr} (hb:b ∈ as):b < h.objs.size:=by
 obtain⟨j,hj⟩:=List.mem_iff_getElem?.mp hb
 obtain⟨_,_,z⟩:=L.at_ j b hj
 exact Heap.lt_size z
theorem Laid.keep {lo:Addr} {h h':Heap} {as:List Addr} (L:Laid es lo h as) (k:∀ b o,b ∈ as→h.get? b=some o→h'.get? b=some o):Laid es lo h' as :=
 ⟨L.rise,L.above,fun j b hj=>let ⟨x,e1,e2⟩:=L.at_ j b hj;⟨x,e1,k b _ (List.mem_of_getElem? hj) e2⟩⟩
theorem Laid.snoc {lo p:Addr} {h h':Heap} {as:List Addr} (L:Laid es lo h as) (k:∀ b o,b ∈ as→h.get? b=some o→h'.get? b=some o) (hp:h.objs.size≤p) (hl:lo < p) (hx:es[as.length]? = some e)
  (ht:h'.get? p=some { cls:= .type "tuple",data:= .seq #[e.key,e.val] }):Laid es lo h' (as ++ [p]):=by
 have L':=L.keep k
 refine⟨List.pairwise_append.mpr ⟨L.rise,List.pairwise_singleton _ _,fun b hb c hc=> ?_⟩,fun b hb=> ?_,fun j b hj=> ?_⟩
 ·rw[List.mem_singleton.mp hc]
  exact Nat.lt_of_lt_of_le (L.in hb) hp
 ·rcases List.mem_append.mp hb with z | z
  ·exact L.above b z
  ·rw[List.mem_singleton.mp z];exact hl
 ·by_cases h1:j < as.length
  ·rw[List.getElem?_append_left h1]at hj
   exact L'.at_ j b hj
  ·have ej:j=as.length:=by
    have:=(List.getElem?_eq_some_iff.mp hj).1
    simp at this
    omega
   subst ej
   rw[List.getElem?_append_right (Nat.le_refl _)]at hj
   simp at hj
   subst hj
   exact⟨e,hx,ht⟩
def ItSt (h:Heap) (it d S:Addr) (i n ep:Nat):Prop:=(i=0∧∃ ok ov,IsItemIter h it d 0 n ep ok ov)∨∃ ok ov a f oa,PySem.W.KdxIt h it d i n ep ok ov a f∧h.get? a=some oa∧a ≠ it∧a ≠ S
end
section
variable {prog:Program} {w:World} {A:Around} {s:Shared} {R:Result→Shared→Prop} {es:Array DictEntry} {ep:Nat} {od:Obj}
theorem qf1 {S I d:Addr} (hh:A.handled=none) (lSI:S < I) (nS:d ≠ S) (nI:d ≠ I) (hn:es.size≤sizeLine) (hdd:od.data= .dict es ep) (res:Value) {g:Heap}
  (fin:∀ h' tk acc c as,(∀ b o,b ≠ S→b ≠ I→g.get? b=some o→h'.get? b=some o)→h'.get? S=some { cls:= .type "list",dict:=none,data:= .seq acc c,slots:= #[] }→as.length=es.size→Laid es I h' as→acc.toList=as.map Value.ref→R (.ok (.ret res)) { s with heap:=h',toks:=tk }) :
  ∀ (m i:Nat) (h:Heap) (tk c:Nat) (acc:Array Value) (as:List Addr),es.size - i=m→i≤es.size→ItSt h I d S i es.size ep→h.get? d=some od→(∀ b o,b ≠ S→b ≠ I→g.get? b=some o→h.get? b=some o) →
   h.get? S=some { cls:= .type "list",dict:=none,data:= .seq acc c,slots:= #[] }→acc.toList=as.map Value.ref→as.length=i→Laid es I h as→I < h.objs.size →
   codeAny (model prog w) A (.builtin "list.extend.loop" ⟨[.ref S,.ref I,res],[]⟩) R { s with heap:=h,toks:=tk }:=by
 have ne:S ≠ I:=Nat.ne_of_lt lSI
 intro m
 induction m with
 | zero =>
  intro i h tk c acc as em hi st hod kp hS ea el L hI
  refine codeAny_builtin F.entry_extend_loop ?_
  rw[Around.under_plainId F.plain_extend_loop _]
  show wpAny _ A.in1 (pyNext (.ref I) >>= _) _ _ _
  have done:∀ h',Heap.ExtBut I h h'→R (.ok (.ret res)) { s with heap:=h',toks:=tk }:=fun h' eb =>
   fin h' tk acc c as (fun b o h1 h2 q=>eb b o h2 (kp b o h1 h2 q)) (eb S _ ne hS) (by omega) (L.keep fun b o hb q=>eb b o (Nat.ne_of_gt (L.above b hb)) q) ea
  refine wpAny_bind ?_
  rcases st with ⟨rfl,ok,ov,q⟩ | ⟨ok,ov,a,f,oa,q,_⟩
  ·exact qc4 (s:={ s with heap:=h,toks:=tk }) (A:=A.in1) hh q hod hdd (by omega) fun h' eb=>wpAny_pure (done h' eb)
  ·exact qch (s:={ s with heap:=h,toks:=tk }) (A:=A.in1) hh q hod hdd (by omega) fun h' eb=>wpAny_pure (done h' eb)
 | succ m ih =>
  intro i h tk c acc as em hi st hod kp hS ea el L hI
  have lt:i < es.size:=by omega
  have hx:es[i]? = some es[i]:=Array.getElem?_eq_getElem lt
  have sz:acc.size=i:=by rw[← Array.length_toList,ea,List.length_map,el]
  have lS:S < h.objs.size:=Heap.lt_size hS
  refine codeAny_builtin F.entry_extend_loop ?_
  rw[Around.under_plainId F.plain_extend_loop _]
  show wpAny _ A.in1 (pyNext (.ref I) >>= _) _ _ _
  refine wpAny_bind ?_
  have more:∀ h',ItSt h' I d S (i + 1) es.size ep→h'.get? h.objs.size=some { cls:= .type "tuple",data:= .seq #[es[i].key,es[i].val] }→(∀ b o,b ≠ I→h.get? b=some o→h'.get? b=some o) →
    wpAny (model prog w) A.in1 (updateSeq S (·.push (Value.ref h.objs.size)) >>= fun _=>pure (PySem.Fin.again (.builtin "list.extend.loop" ⟨[.ref S,.ref I,res],[]⟩)))
     (fun fin s'=>match fin with | .done f=>R (.ok f) s' | .again c'=>c'.quiet=true∧codeAny (model prog w) A c' R s') (fun e s'=>R (.error e) s') { s with heap:=h',toks:=tk }:=by
   intro h' st' ht k1
   have hS':=k1 S _ ne hS
   have up:∀ b o,b ≠ S→h'.get? b=some o→(h'.update S (Obj.mapSeq (·.push (Value.ref h.objs.size)))).get? b=some o:=fun b o hb q=>(Heap.get?_update_other _ _ (Ne.symm hb)).trans q
   have tu:=up _ _ (Nat.ne_of_gt lS) ht
   refine wpAny_bind (wpAny_updateSeq hS' rfl (wpAny_pure ⟨plainId_quiet F.plain_extend_loop _,?_⟩) (by rw[sz];omega) (by show (acc.push (Value.ref h.objs.size)).size≤sizeLine + 1;rw[Array.size_push,sz];omega))
   refine ih (i + 1) _ tk _ (acc.push (Value.ref h.objs.size)) (as ++ [h.objs.size]) (by omega) lt ?_ (up d _ nS (k1 d _ nI hod)) (fun b o h1 h2 q=>up b o h1 (k1 b o h2 (kp b o h1 h2 q))) (Heap.get?_update_self _ hS' rfl) (by rw[Array.toList_push,ea,List.map_append];rfl) (by rw[List.length_append,el];rfl)
    (L.snoc (fun b o hb q=>up b o (Nat.ne_of_gt (Nat.lt_trans lSI (L.above b hb))) (k1 b o (Nat.ne_of_gt (L.above b hb)) q)) (Nat.le_refl _) hI (by rw[el];exact hx) tu) (Nat.lt_trans hI (Heap.lt_size tu))
   rcases st' with ⟨z,_⟩ | ⟨ok,ov,a,f,oa,q,qa,na,nb⟩
   ·cases z
   ·exact .inr ⟨ok,ov,a,f,oa,up _ _ (Ne.symm ne) q,up _ _ nb qa,na,nb⟩
  rcases st with ⟨rfl,ok,ov,q⟩ | ⟨ok,ov,a,f,oa,q,qa,na,nb⟩
  ·exact qb4 (s:={ s with heap:=h,toks:=tk }) (A:=A.in1) q hod hdd hx fun h' q' ht hz k1=>more h' (.inr ⟨_,_,_,false,_,q',ht,Nat.ne_of_gt hI,Nat.ne_of_gt lS⟩) ht k1
  ·exact qe2 (s:={ s with heap:=h,toks:=tk }) (A:=A.in1) q qa na hod hdd hx fun h' q' ht hz k1=>more h' (.inr ⟨_,_,a,true,oa,q',k1 a oa na qa,na,nb⟩) ht k1
end
section
variable {prog:Program} {w:World} {A:Around} {E:Value→Shared→Prop} {s:Shared} {r d:Addr} {es:Array DictEntry} {ep:Nat} {od:Obj}
theorem qcs {R:Result→Shared→Prop} (hh:A.handled=none) (hv:s.heap.IsItemsView r d) (hod:s.heap.get? d=some od) (hdd:od.data= .dict es ep) (S:Addr) (nr:S ≠ r) (nd:d ≠ S) (res:Value) (c₀:Nat) (hS:s.heap.get? S=some { cls:= .type "list",data:= .seq #[] c₀ }) (hn:es.size≤sizeLine)
  (fin:∀ h' tk acc c as,(∀ b o,b ≠ S→s.heap.get? b=some o→h'.get? b=some o)→h'.get? S=some { cls:= .type "list",dict:=none,data:= .seq acc c,slots:= #[] }→as.length=es.size→Laid es s.heap.objs.size h' as→acc.toList=as.map Value.ref→R (.ok (.ret res)) { s with heap:=h',toks:=tk }) :
  wpAny (model prog w) A.in1 (Builtin.List.listExtendWith (.ref S) (.ref r) res)
   (fun fin s'=>match fin with | .done f=>R (.ok f) s' | .again c'=>c'.quiet=true∧codeAny (model prog w) A c' R s') (fun e s'=>R (.error e) s') s:=by
 have lS:S < s.heap.objs.size:=Heap.lt_size hS
 have ld:d < s.heap.objs.size:=Heap.lt_size hod
 have key:∀ (h:Heap) (c₁ tk:Nat),(∀ b o,b ≠ S→(s.heap.push { cls:= .type "dict_itemiterator",data:= .fields #[.none,.bool false,.ref d,.int 0 0,.int es.size 0,.int ep 0,.none,.none] }).get? b=some o→h.get? b=some o) →
   h.get? S=some { cls:= .type "list",data:= .seq #[] c₁ }→codeAny (model prog w) A (.builtin "list.extend.loop" ⟨[.ref S,.ref s.heap.objs.size,res],[]⟩) R { s with heap:=h,toks:=tk }:=by
  intro h c₁ tk hk hS1
  have hI:=hk s.heap.objs.size _ (Nat.ne_of_gt lS) (Heap.get?_push_size _ rfl)
  refine qf1 (s:=s) (g:=s.heap) hh lS nd (Nat.ne_of_lt ld) hn hdd res (fun h' tk' acc c as k1 h1 h2 h3 h4=>fin h' tk' acc c as (fun b o hb q=>k1 b o hb (Nat.ne_of_lt (Heap.lt_size q)) q) h1 h2 h3 h4) es.size 0 h tk c₁ #[] [] (Nat.sub_zero _) (Nat.zero_le _)
   (.inl ⟨rfl,.none,.none,hI⟩) (hk d _ nd (Heap.get?_push_of_some _ hod)) (fun b o hb _ q=>hk b o hb (Heap.get?_push_of_some _ q)) hS1 rfl rfl ⟨.nil,(fun _ z=>nomatch z),fun j a z=>by simp at z⟩ (Heap.lt_size hI)
 unfold Builtin.List.listExtendWith
 refine wpAny_bind (wpAny_typeOf (T:= "dict_items") hv.typeIs ?_)
 have e1:Builtin.List.listSameRef (.ref S) (.ref r)=false:=by simp[Builtin.List.listSameRef,nr]
 have e2:(Value.type "dict_items" == Value.type "list")=false:=by decide
 have e3:(Value.type "dict_items" == Value.type "tuple")=false:=by decide
 simp only[e1,e2,e3,Bool.or_false,Bool.false_eq_true,if_false]
 refine wpAny_bind (qbj hv hod hdd ?_)
 have hS1:=Heap.get?_push_of_some { cls:= .type "dict_itemiterator",data:= .fields #[.none,.bool false,.ref d,.int 0 0,.int es.size 0,.int ep 0,.none,.none] } hS
 refine wpAny_bind (wpAny_holding (PySem.W.kdx_hint (let ⟨o,ho,hc,_⟩:=hv;⟨o,Heap.get?_push_of_some _ ho,hc⟩) ?_))
 refine wpAny_ite_split (fun _=>wpAny_bind (wpAny_rule (wpAny_bind ?_))) (fun _=>wpAny_pure ⟨plainId_quiet F.plain_extend_loop _,key _ c₀ _ (fun b o _ q=>q) hS1⟩)
 show wpAny _ _ (updateSeq S (·.push .none) >>= fun _=>updateSeq S (·.pop)) _ _ _
 have hS2:=Heap.get?_update_self (Obj.mapSeq (·.push Value.none)) hS1 rfl
 have hS3:=Heap.get?_update_self (Obj.mapSeq (·.pop)) hS2 rfl
 refine wpAny_bind (wpAny_updateSeq hS1 rfl (wpAny_updateSeq (hz:=by seq_fits) hS2 rfl (wpAny_pure ⟨plainId_quiet F.plain_extend_loop _,key _ _ _ (fun b o hb q=> ?_) hS3⟩)))
 exact(Heap.get?_update_other _ _ (Ne.symm hb)).trans ((Heap.get?_update_other _ _ (Ne.symm hb)).trans q)
theorem qao {Q:Value→Shared→Prop} (hh:A.handled=none) (hv:s.heap.IsItemsView r d) (hod:s.heap.get? d=some od) (hdd:od.data= .dict es ep) (hn:es.size≤sizeLine)
  (fin:∀ h' tk acc c as,(∀ b o,s.heap.get? b=some o→h'.get? b=some o)→h'.get? s.heap.objs.size=some { cls:= .type "list",dict:=none,data:= .seq acc c,slots:= #[] }→as.length=es.size→Laid es s.heap.objs.size h' as→acc.toList=as.map Value.ref →
   Q (.ref s.heap.objs.size) { s with heap:=h',toks:=tk }):wpAny (model prog w) A (call (.type "list") [.ref r]) Q E s:=by
 refine callType_codes (Q₁:=fun obj s₁=>obj= .ref s.heap.objs.size∧s₁={ s with heap:=s.heap.push { cls:= .type "list",data:= .seq #[] } }) F.called_list (F.typeCall_list_1 _) F.entry_list_init (code_list_new _ ⟨rfl,rfl⟩) fun obj s₁ q=> ?_
 obtain⟨rfl,rfl⟩:=q
 have hS:(s.heap.push { cls:= .type "list",data:= .seq #[] }).get? s.heap.objs.size=some { cls:= .type "list",data:= .seq #[] }:=Heap.get?_push_size _ rfl
 have lr:r < s.heap.objs.size:=let ⟨_,ho,_⟩:=hv;Heap.lt_size ho
 have ld:d < s.heap.objs.size:=Heap.lt_size hod
 refine⟨⟨_,hS,rfl⟩,F.args_list_init_2 _ _,?_⟩
 generalize eg:s.heap.push { cls:= .type "list",data:= .seq #[] }=g at hS
 have kg:∀ b o,s.heap.get? b=some o→g.get? b=some o:=fun b o q=>by rw[← eg];exact Heap.get?_push_of_some _ q
 show wpAny _ _ (do let old ← Builtin.List.listItems (.ref s.heap.objs.size);Builtin.List.listUpdate (.ref s.heap.objs.size) (fun _=> #[]);letGo old.toList.reverse;Builtin.List.listExtendWith (.ref s.heap.objs.size) (.ref r) .none) _ _ _
 refine wpAny_bind ?_
 unfold Builtin.List.listItems
 refine wpAny_bind (wpAny_seqItems hS rfl (wpAny_pure ?_))
 show wpAny _ _ (updateSeq s.heap.objs.size (fun _=> #[]) >>= fun _=>letGo (#[]:Array Value).toList.reverse >>= fun _=>Builtin.List.listExtendWith (.ref s.heap.objs.size) (.ref r) .none) _ _ _
 refine wpAny_bind (wpAny_updateSeq hS rfl (wpAny_bind (wpAny_letGo ?_)))
 have hS2:=Heap.get?_update_self (Obj.mapSeq (fun _=>(#[]:Array Value))) hS rfl
 have oth:∀ b o,b ≠ s.heap.objs.size→g.get? b=some o→(g.update s.heap.objs.size (Obj.mapSeq (fun _=>(#[]:Array Value)))).get? b=some o:=fun b o hb q=>(Heap.get?_update_other _ _ (Ne.symm hb)).trans q
 have gz:s.heap.objs.size≤(g.update s.heap.objs.size (Obj.mapSeq (fun _=>(#[]:Array Value)))).objs.size:=Nat.le_of_lt (Heap.lt_size hS2)
 have nr:r ≠ s.heap.objs.size:=Nat.ne_of_lt lr
 have nd:d ≠ s.heap.objs.size:=Nat.ne_of_lt ld
 refine qcs (A:=A.in1) (s:={ s with heap:=g.update s.heap.objs.size (Obj.mapSeq (fun _=>(#[]:Array Value))) }) hh (let ⟨o,ho,x⟩:=hv;⟨o,oth r o nr (kg r o ho),x⟩) (oth d _ nd (kg d _ hod)) hdd s.heap.objs.size (Ne.symm nr) nd .none _ hS2 hn fun h' tk acc c as k1 h1 h2 h3 h4=> ?_
 exact⟨rfl,fin h' tk acc c as (fun b o q=>k1 b o (Nat.ne_of_lt (Heap.lt_size q)) (oth b o (Nat.ne_of_lt (Heap.lt_size q)) (kg b o q))) h1 h2 ⟨h3.rise,fun a ha=>Nat.lt_of_le_of_lt gz (h3.above a ha),h3.at_⟩ h4⟩
end
section
variable {X:Cx}
theorem qam (hc:X.calm=true):q44 X (.type "list") (fun xs H Q=>∃ (v d:Addr) (u:HO),xs=[.ref v]∧H v=some (.ext fun h=>h.IsItemsView v d)∧H d=some u∧isD u ∧
  ∀ (p:Addr) (as:List Addr) (ps:List (V×V)) (H':Hp),H p=none→H' p=some (.lst (as.map V.ref))→q97 H u ps→as.length=ps.length→(∀ (j:Nat) a q,as[j]? = some a→ps[j]? = some q→H' a=some (.tup [q.1,q.2]))→Kp [] H H'→Q (.ref p) H'):=by
 intro pins s σ H xs us Q I r h
 obtain⟨v,d,u,rfl,hv,hd,hu,q⟩:=h
 obtain⟨uv,rfl,ru⟩:=q5z r
 obtain rfl:uv=Value.ref v:=ru
 obtain⟨vw,_⟩:=I.hok v _ hv
 obtain⟨lo,od,es,ep,ps,hod,_,_,hdd,hps,hr⟩:=qkn I.hok hd hu
 have hl:es.size=ps.length:=by have:=Paired.length hr;simpa using this
 have hz:es.size≤sizeLine:=by
  rw[hl]
  cases u with
  | dK kvs=>obtain⟨z,_⟩:=(show q1n X.prog X.w H s.heap d (.dK kvs) from I.hok d _ hd);rw[show ps=_ from hps,List.length_map];exact z
  | dT kvs=>obtain⟨z,_⟩:=(show q1n X.prog X.w H s.heap d (.dT kvs) from I.hok d _ hd);rw[← Paired.length hps];exact z
  | _=>exact hu.elim
 refine qao (I.ok.hd hc) vw hod hdd hz fun h' tk acc c as kp hS hlen L hacc=> ?_
 have I1:Inv X pins σ H { s with heap:=h',toks:=tk }:=I.kept kp
 obtain⟨H',I',k',fr,at'⟩:=Inv.trackT (ps:=ps) I1 (hlen.trans hl) (q4l L.rise) (fun a ha=>I.fpOk (Nat.le_of_lt (L.above a ha)) (I.hok.fresh (Nat.le_of_lt (L.above a ha)))) (fun j a p e1 e2=>by
  obtain⟨e,e3,e4⟩:=L.at_ j a e1
  obtain⟨e',e5,r1,r2⟩:=hr.get e2
  rw[← Array.getElem?_toList,e5]at e3
  cases e3
  exact⟨_,_,r1,r2,e4⟩)
 have nS:s.heap.objs.size ∉ as:=fun z=>absurd (L.above _ z) (Nat.lt_irrefl _)
 have fS:FpOk X pins H' s.heap.objs.size:=I.fpOk (Nat.le_refl _) (fr _ nS (I.hok.fresh (Nat.le_refl _)))
 have hv':Vals (as.map V.ref) acc.toList:=by rw[hacc];exact q4i as
 have I2:Inv X pins σ (upd H' s.heap.objs.size (.lst (as.map V.ref))) { s with heap:=h',toks:=tk }:=I'.track fS ⟨by rw[List.length_map,hlen];exact hz,acc.toList,c,hv',by simpa using hS⟩
 refine⟨.ref s.heap.objs.size,_,I2,rfl,q _ as ps _ (I.hok.fresh (Nat.le_refl _)) q03 hps (hlen.trans hl) (fun j a p e1 e2=> ?_) (k'.trans (Kp.new fS.1))⟩
 rw[q0b (q0d (at' j a p e1 e2) fS.1)]
 exact at' j a p e1 e2
end
section
variable {X:Cx} {tg:Expr}
end
end L2
end
section
namespace L2
open PySem PySem.Spec PyProof.Rows
open PySem.W (KasT)
def tOk {α:Type} (lt:Nat→Nat→Bool) (n:Nat):KasT α→(α→Prop)→Prop
 | .ret a,P=>P a
 | .ask i j k,P=>(i < n∧j < n∧i ≠ j)∧tOk lt n (k (lt i j)) P
theorem q3t {α β:Type} {lt:Nat→Nat→Bool} {n:Nat} {f:α→KasT β} {P:β→Prop}:∀ {t:KasT α},tOk lt n t (fun a=>tOk lt n (f a) P)→tOk lt n (t.bind f) P
 | .ret _,h=>h
 | .ask _ _ _,h=>⟨h.1,q3t h.2⟩
theorem qgs {α:Type} {lt:Nat→Nat→Bool} {n:Nat} {cmp:Nat→Nat→(Bool→Shared→Prop)→Shared→Prop} {s:Shared} {Q:α→Shared→Prop} (hc:∀ i j C,i < n→j < n→i ≠ j→C (lt i j) s→cmp i j C s):∀ {t:KasT α},tOk lt n t (fun a=>Q a s)→t.kasWp cmp Q s
 | .ret _,h=>h
 | .ask i j k,h=>hc i j _ h.1.1 h.1.2.1 h.1.2.2 (qgs (t:=k (lt i j)) hc h.2)
structure LtOk (lt:Nat→Nat→Bool) (n:Nat):Prop where
 tot:∀ i j,i < n→j < n→i ≠ j→lt i j=false→lt j i=true
 asy:∀ i j,lt i j=true→lt j i=false
 tr:∀ i j k,lt i j=true→lt j k=true→lt i k=true
abbrev gd (p:Array Nat) (i:Nat):Nat:=p.getD i 0
def Pn (n:Nat) (p:Array Nat):Prop:=p.toList.Perm (List.range n)
def Up (lt:Nat→Nat→Bool) (p:Array Nat) (m:Nat):Prop:=∀ i j,i < j→j < m→lt (gd p i) (gd p j)=true
def Dn (lt:Nat→Nat→Bool) (p:Array Nat) (m:Nat):Prop:=∀ i j,i < j→j < m→lt (gd p j) (gd p i)=true
theorem qfb {p q:Array Nat} {i j:Nat} (h:p[i]? = q[j]?):gd p i=gd q j:=by
 unfold gd
 rw[Array.getD_eq_getD_getElem?,Array.getD_eq_getD_getElem?,h]
section
variable {lt:Nat→Nat→Bool} {n:Nat} {p:Array Nat}
theorem Pn.size (h:Pn n p):p.size=n:=by have:=h.length_eq;simpa using this
theorem qhl (h:Pn n p) {i:Nat} (hi:i < n):∃ h':i < p.toList.length,gd p i=p.toList[i]:=by
 have hs:=h.size
 have h':i < p.toList.length:=by simpa [hs] using hi
 refine⟨h',?_⟩
 unfold gd
 rw[Array.getD_eq_getD_getElem?,← Array.getElem?_toList,List.getElem?_eq_getElem h']
 rfl
theorem Pn.bd (h:Pn n p) {i:Nat} (hi:i < n):gd p i < n:=by
 obtain⟨h',e⟩:=qhl h hi
 rw[e]
 exact List.mem_range.mp (h.mem_iff.mp (List.getElem_mem h'))
theorem Pn.ne (h:Pn n p) {i j:Nat} (hi:i < n) (hj:j < n) (hij:i ≠ j):gd p i ≠ gd p j:=by
 obtain⟨h1,e1⟩:=qhl h hi
 obtain⟨h2,e2⟩:=qhl h hj
 rw[e1,e2]
 intro z
 have nd:p.toList.Nodup:=h.nodup_iff.mpr List.nodup_range
 exact hij ((List.getElem_inj nd).mp z)
theorem Pn.up1 (O:LtOk lt n) (hp:Pn n p) {m:Nat} (h1:1≤m) (hm:m < n) (u:Up lt p m) (h:lt (gd p m) (gd p (m - 1))=false):Up lt p (m + 1):=by
 have h2:=O.tot _ _ (hp.bd hm) (hp.bd (show m - 1 < n by omega)) (hp.ne hm (by omega) (by omega)) h
 intro i j hij hj
 by_cases e:j < m
 ·exact u i j hij e
 ·obtain rfl:j=m:=by omega
  by_cases e2:i=j - 1
  ·rw[e2];exact h2
  ·exact O.tr _ _ _ (u i (j - 1) (by omega) (by omega)) h2
theorem qd0 (O:LtOk lt n) (hp:Pn n p) {P:Nat→Prop}:∀ (f m:Nat),1≤m→m + f≤n→Up lt p m→(∀ m',m≤m'→m'≤m + f→Up lt p m'→(m'=m + f∨lt (gd p m') (gd p (m' - 1))=true)→P m')→tOk lt n (PySem.W.kas_asc p f m) P
 | 0,m,_,_,u,k=>k m (Nat.le_refl _) (by omega) u (.inl rfl)
 | f + 1,m,h1,hm,u,k=>by
  refine⟨⟨hp.bd (by omega),hp.bd (by omega),hp.ne (by omega) (by omega) (by omega)⟩,?_⟩
  cases e:lt (gd p m) (gd p (m - 1)) with
  | true =>
   dsimp only
   rw[if_pos rfl]
   exact k m (Nat.le_refl _) (by omega) u (.inr e)
  | false =>
   dsimp only
   rw[if_neg (by simp)]
   exact qd0 O hp f (m + 1) (by omega) (by omega) (hp.up1 O h1 (by omega) u e) fun m' a1 a2 a3 a4=>k m' (by omega) (by omega) a3 (a4.imp (fun z=>by omega) id)
theorem qe1 (O:LtOk lt n) (hp:Pn n p) {P:Array Nat×Nat×Nat→Prop}:∀ (f m:Nat),1≤m→m + f≤n→Dn lt p m→(∀ m',m≤m'→m'≤m + f→Dn lt p m'→P (p,m',0))→tOk lt n (PySem.W.kas_desc f p m 0) P
 | 0,m,_,_,u,k=>k m (Nat.le_refl _) (by omega) u
 | f + 1,m,h1,hm,u,k=>by
  have d1:=hp.ne (show m < n by omega) (show m - 1 < n by omega) (by omega)
  refine⟨⟨hp.bd (by omega),hp.bd (by omega),d1⟩,?_⟩
  cases e:lt (gd p m) (gd p (m - 1)) with
  | true =>
   dsimp only
   rw[if_pos rfl,if_neg (by omega)]
   refine qe1 O hp f (m + 1) (by omega) (by omega) (fun i j hij hj=> ?_) fun m' a1 a2 a3=>k m' (by omega) (by omega) a3
   by_cases e':j < m
   ·exact u i j hij e'
   ·obtain rfl:j=m:=by omega
    by_cases e2:i=j - 1
    ·rw[e2];exact e
    ·exact O.tr _ _ _ e (u i (j - 1) (by omega) (by omega))
  | false =>
   dsimp only
   rw[if_neg (by simp)]
   refine⟨⟨hp.bd (by omega),hp.bd (by omega),Ne.symm d1⟩,?_⟩
   show tOk lt n (if lt (gd p (m - 1)) (gd p m)=true then _ else _) P
   rw[if_pos (O.tot _ _ (hp.bd (by omega)) (hp.bd (by omega)) d1 e)]
   exact k m (Nat.le_refl _) (by omega) u
theorem Pn.rev (hp:Pn n p) (i j:Nat):Pn n (PySem.W.kas_rev p i j):=(Array.perm_iff_toList_perm.mp (mirror_perm p i j _)).trans hp
theorem qfw (O:LtOk lt n) (hp:Pn n p) {m:Nat} {P:Nat×Array Nat→Prop} (h1:1≤m) (hm:m≤n) (d:Dn lt p m) (k:∀ m' p',Pn n p'→1≤m'→m'≤n→Up lt p' m'→P (m',p')):tOk lt n (PySem.W.kas_tail3 m n p) P:=by
 refine q3t (qd0 O (hp.rev 0 m) (n - m) m h1 (by omega) (fun i j hij hj=> ?_) fun m' a1 a2 a3 _=>k m' _ (hp.rev 0 m) (by omega) (by omega) a3)
 have e:∀ t,t < m→gd (PySem.W.kas_rev p 0 m) t=gd p (m - 1 - t):=fun t ht=>by
  refine qfb ?_
  show (mirror p 0 m ((m - 0) / 2))[t]? = _
  rw[getElem?_mirror_all (by rw[hp.size];exact hm),if_pos ⟨Nat.zero_le _,ht⟩,Nat.zero_add]
 rw[e i (by omega),e j hj]
 exact d _ _ (by omega) (by omega)
theorem qem (O:LtOk lt n) (hp:Pn n p) (h1:1≤n) {P:Nat×Array Nat→Prop} (k:∀ m' p',Pn n p'→1≤m'→m'≤n→Up lt p' m'→P (m',p')):tOk lt n (PySem.W.kas_count n p) P:=by
 refine q3t (qd0 O hp (n - 1) 1 (Nat.le_refl _) (by omega) (fun i j hij hj=>by omega) fun m a1 a2 a3 a4=> ?_)
 by_cases e:m=n
 ·rw[if_pos (by rw[e];exact beq_self_eq_true _)]
  exact k m p hp a1 (by omega) a3
 ·rw[if_neg (by simpa using e)]
  by_cases e2:m > 1
  ·rw[if_pos e2]
   refine⟨⟨hp.bd (by omega),hp.bd (by omega),hp.ne (by omega) (by omega) (by omega)⟩,?_⟩
   show tOk lt n (if lt (gd p 0) (gd p (m - 1))=true then _ else _) P
   rw[if_pos (a3 0 (m - 1) (by omega) (by omega))]
   exact k m p hp a1 (by omega) a3
  ·rw[if_neg e2]
   obtain rfl:m=1:=by omega
   have h0:lt (gd p 1) (gd p 0)=true:=a4.resolve_left (by omega)
   refine q3t (qe1 O hp (n - (1 + 1)) (1 + 1) (by omega) (by omega) (fun i j hij hj=> ?_) fun m' b1 b2 b3=> ?_)
   ·obtain rfl:i=0:=by omega
    obtain rfl:j=1:=by omega
    exact h0
   ·show tOk lt n (if 0 > 0 then _ else _) P
    rw[if_neg (by omega)]
    show tOk lt n (PySem.W.kas_tail3 m' n p) P
    exact qfw O hp (by omega) (by omega) b3 k
theorem q7g (O:LtOk lt n) (hp:Pn n p) {k:Nat} (hk:k < n) (u:Up lt p k) {P:Nat→Prop}:∀ (f l r:Nat),l≤r→r≤k→r - l≤f→(∀ i,i < l→lt (gd p i) (gd p k)=true)→(∀ i,r≤i→i < k→lt (gd p k) (gd p i)=true) →
  (∀ l',l'≤k→(∀ i,i < l'→lt (gd p i) (gd p k)=true)→(∀ i,l'≤i→i < k→lt (gd p k) (gd p i)=true)→P l')→tOk lt n (PySem.W.kas_place p k f l r) P
 | 0,l,r,h1,h2,h3,a,b,q=>by
  obtain rfl:l=r:=by omega
  exact q l h2 a b
 | f + 1,l,r,h1,h2,h3,a,b,q=>by
  unfold PySem.W.kas_place
  by_cases e:l ≥ r
  ·rw[if_pos e]
   obtain rfl:l=r:=by omega
   exact q l h2 a b
  ·rw[if_neg e]
   have dn:=hp.ne hk (show (l + r) / 2 < n by omega) (by omega)
   refine⟨⟨hp.bd hk,hp.bd (by omega),dn⟩,?_⟩
   show tOk lt n (if lt (gd p k) (gd p ((l + r) / 2))=true then _ else _) P
   cases c:lt (gd p k) (gd p ((l + r) / 2)) with
   | true =>
    rw[if_pos rfl]
    refine q7g O hp hk u f l ((l + r) / 2) (by omega) (by omega) (by omega) a (fun i h4 h5=> ?_) q
    by_cases e3:i=(l + r) / 2
    ·rw[e3];exact c
    ·exact O.tr _ _ _ c (u _ _ (by omega) h5)
   | false =>
    rw[if_neg (by simp)]
    have c2:=O.tot _ _ (hp.bd hk) (hp.bd (show (l + r) / 2 < n by omega)) dn c
    refine q7g O hp hk u f ((l + r) / 2 + 1) r (by omega) (by omega) (by omega) (fun i h4=> ?_) b q
    by_cases e3:i=(l + r) / 2
    ·rw[e3];exact c2
    ·exact O.tr _ _ _ (u i _ (by omega) (by omega)) c2
theorem qh2 (O:LtOk lt n) {P:Array Nat→Prop} (q:∀ p',Pn n p'→Up lt p' n→P p'):∀ (f k:Nat) (p:Array Nat),Pn n p→k + f=n→Up lt p k→tOk lt n (PySem.W.kas_bin f p k) P
 | 0,k,p,hp,hk,u=>by
  obtain rfl:k=n:=by omega
  exact q p hp u
 | f + 1,k,p,hp,hk,u=>by
  refine q3t (q7g O hp (show k < n by omega) u k 0 k (Nat.zero_le _) (Nat.le_refl _) (Nat.le_refl _) (fun i h=>absurd h (Nat.not_lt_zero _)) (fun i h1 h2=>by omega) fun l hl a b=> ?_)
  refine qh2 O q f (k + 1) _ ((Array.perm_iff_toList_perm.mp (bubble_perm p k (k - l))).trans hp) (by omega) fun i j hij hj=> ?_
  have ks:k < p.size:=by rw[hp.size];omega
  have e:∀ t,gd (bubble p k (k - l)) t=if t=l then gd p k else if l < t∧t≤k then gd p (t - 1) else gd p t:=fun t=>by
   have z:=getElem?_bubble ks (k - l) (by omega) t
   rw[show k - (k - l)=l by omega]at z
   by_cases c1:t=l
   ·rw[if_pos c1]at z ⊢;exact qfb z
   ·rw[if_neg c1]at z ⊢
    by_cases c2:l < t∧t≤k
    ·rw[if_pos c2]at z ⊢;exact qfb z
    ·rw[if_neg c2]at z ⊢;exact qfb z
  rw[e i,e j]
  by_cases i1:i=l
  ·rw[if_pos i1,if_neg (by omega),if_pos (by omega)]
   exact b _ (by omega) (by omega)
  ·rw[if_neg i1]
   by_cases i2:l < i∧i≤k
   ·rw[if_pos i2,if_neg (by omega),if_pos (by omega)]
    exact u _ _ (by omega) (by omega)
   ·rw[if_neg i2]
    by_cases j1:j=l
    ·rw[if_pos j1]
     exact a _ (by omega)
    ·rw[if_neg j1]
     by_cases j2:l < j∧j≤k
     ·rw[if_pos j2]
      exact u _ _ (by omega) (by omega)
     ·rw[if_neg j2]
      exact u _ _ (by omega) (by omega)
theorem qjf (O:LtOk lt n) (h1:1≤n) {P:Array Nat→Prop} (q:∀ p',Pn n p'→Up lt p' n→P p'):tOk lt n (PySem.W.kas_sort n) P:=by
 have h0:Pn n (List.toArray (List.range n)):=by unfold Pn;exact List.Perm.refl _
 refine q3t (qem O h0 h1 fun m p' hp a1 a2 u=> ?_)
 show tOk lt n (if m < n then _ else _) P
 by_cases e:m < n
 ·rw[if_pos e]
  refine qh2 O q _ _ p' hp (by omega) ?_
  rw[show max m 1=m by omega]
  exact u
 ·rw[if_neg e]
  obtain rfl:m=n:=by omega
  exact q p' hp u
end
def ltS (x y:Str):Bool:=decide (x.cps.toList < y.cps.toList)
theorem qef {x y:Str} (h1:ltS x y=false) (h2:ltS y x=false):x=y:=by
 have:=strKind.total x.cps.toList y.cps.toList h1 h2
 cases x
 cases y
 exact congrArg Str.mk (Array.toList_inj.mp this)
theorem qa8 {x y z:Str} (h1:ltS x y=true) (h2:ltS y z=true):ltS x z=true:=strKind.trans x.cps.toList y.cps.toList z.cps.toList h1 h2
theorem q73 (x:Str):ltS x x=false:=strKind.irrefl x.cps.toList
abbrev gx (xs:List Str) (i:Nat):Str:=(xs[i]?).getD ⟨#[]⟩
theorem qkr {xs:List Str} (nd:xs.Nodup):LtOk (fun i j=>ltS (gx xs i) (gx xs j)) xs.length where
 tot:=fun i j hi hj hij h=>by
  cases h2:ltS (gx xs j) (gx xs i) with
  | true=>rfl
  | false =>
   have e:=qef h h2
   unfold gx at e
   rw[List.getElem?_eq_getElem hi,List.getElem?_eq_getElem hj]at e
   exact absurd ((List.getElem_inj nd).mp e) hij
 asy:=fun i j h=>by
  cases h2:ltS (gx xs j) (gx xs i) with
  | false=>rfl
  | true=>have:=qa8 h h2;rw[q73]at this;cases this
 tr:=fun _ _ _ h1 h2=>qa8 h1 h2
structure Tups (h:Heap) (us:List Value) (xs:List Str):Prop where
 len:us.length=xs.length
 at_:∀ (i:Nat) u x,us[i]? = some u→xs[i]? = some x→∃ (a:Addr) (o:Obj) (t:Tok) (y:Value) (n:Nat),u= .ref a∧h.get? a=some o∧o.cls= .type "tuple" ∧ o.data= .seq #[.str x t,y] n
theorem qa7 {h:Heap}:∀ {us:List Value} {xs:List Str},Tups h us xs→∃ fs:List Value,PySem.W.KatTups h us fs∧fs.length=us.length∧∀ f ∈ fs,∃ x t,f=Value.str x t
 | [],_,_=>⟨[],PySem.W.KatTups.nil,rfl,fun f hf=>nomatch hf⟩
 | u :: us,[],T=>by have:=T.len;simp at this
 | u :: us,x :: xs,T=>by
  obtain⟨a,o,t,y,n,rfl,ho,hc,hd⟩:=T.at_ 0 u x rfl rfl
  obtain⟨fs,k,l,q⟩:=qa7 (us:=us) (xs:=xs) ⟨by have:=T.len;simpa using this,fun i u x e1 e2=>T.at_ (i + 1) u x (by simpa using e1) (by simpa using e2)⟩
  exact⟨.str x t :: fs,PySem.W.KatTups.cons ho hc hd rfl k,by simp[l],fun f hf=>by
   rcases List.mem_cons.mp hf with rfl | hf
   ·exact⟨x,t,rfl⟩
   ·exact q f hf⟩
theorem q3v {α:Type} (us:List α) (d:α):(List.range us.length).map (fun i=>us.getD i d)=us:=by
 apply List.ext_getElem?
 intro i
 by_cases h:i < us.length
 ·rw[List.getElem?_map,List.getElem?_range h,List.getElem?_eq_getElem h]
  simp[List.getElem?_eq_getElem h]
 ·rw[List.getElem?_eq_none (by simpa using h),List.getElem?_eq_none (by simpa using h)]
section
variable {prog:Program} {w:World} {A:Around} {E:Value→Shared→Prop} {s:Shared}
theorem qew {us:List Value} {xs:List Str} (T:Tups s.heap us xs) (nd:xs.Nodup) (i j:Nat) (C:Bool→Shared→Prop) (hi:i < xs.length) (hj:j < xs.length) (hij:i ≠ j) (hC:C (ltS (gx xs i) (gx xs j)) s):PySem.W.kas_ask prog w A (tuples' true) us i j C s:=by
 have ui:i < us.length:=by rw[T.len];exact hi
 have uj:j < us.length:=by rw[T.len];exact hj
 have ei:=List.getElem?_eq_getElem ui
 have ej:=List.getElem?_eq_getElem uj
 have xi:=List.getElem?_eq_getElem hi
 have xj:=List.getElem?_eq_getElem hj
 obtain⟨a,o,t,y,n,e1,h1,c1,d1⟩:=T.at_ i _ _ ei xi
 obtain⟨b,o',t',y',n',e2,h2,c2,d2⟩:=T.at_ j _ _ ej xj
 have g1:us.getD i Value.none= .ref a:=by rw[List.getD_eq_getElem?_getD,ei];exact e1
 have g2:us.getD j Value.none= .ref b:=by rw[List.getD_eq_getElem?_getD,ej];exact e2
 unfold PySem.W.kas_ask
 rw[g1,g2]
 refine PySem.W.kat_lt h1 d1 h2 d2 (PySem.W.kat_cons (wpAny_eqBool_str ?_))
 have ne:¬ xs[i]=xs[j]:=fun z=>hij ((List.getElem_inj nd).mp z)
 rw[decide_eq_false ne]
 refine PySem.W.kat_no (oneLt_str ?_)
 unfold gx at hC
 rw[xi,xj]at hC
 exact hC
theorem qcq {a:Addr} {us:List Value} {xs:List Str} {n:Nat} {G:PySem.Fin→Shared→Prop} (ho:s.heap.get? a=some (seqObj "list" us.toArray n)) (T:Tups s.heap us xs) (nd:xs.Nodup) (h64:us.length < 64)
  (k:∀ (h':Heap) (c:Nat) (p:List Nat),(∀ b ob,b ≠ a→s.heap.get? b=some ob→h'.get? b=some ob)→h'.get? a=some (seqObj "list" (p.map fun i=>us.getD i Value.none).toArray c)→p.Perm (List.range us.length) →
   (∀ (i j:Nat) (x y:Nat),i < j→p[i]? = some x→p[j]? = some y→ltS (gx xs x) (gx xs y)=true)→G (.done (.ret .none)) { s with heap:=h' }) :
  wpAny (model prog w) A (Builtin.«list.sort» ⟨[.ref a],[]⟩) G E s:=by
 by_cases h2:us.length < 2
 ·refine qbp ho h2 fun h' c k1 k2=>k h' c (List.range us.length) k1 (by rw[q3v];exact k2) (List.Perm.refl _) fun i j x y hij e1 e2=> ?_
  have:=(List.getElem?_eq_some_iff.mp e2).1
  rw[List.length_range]at this
  omega
 have lt:a < s.heap.objs.size:=Heap.lt_size ho
 have z:¬ us.toArray.size < 2:=by simpa using h2
 have small:us.length≤sizeLine:=Nat.le_trans (Nat.le_of_lt h64) (by decide)
 rw[list_sort_plain]
 refine wpAny_bind (listItems_at ho rfl (wpAny_bind (listUpdate_at ho rfl ?_ (by simpa using small) (Nat.zero_le _))))
 have g1:=get?_update_seq ho (fun _=>(#[]:Array Value))
 have b1:=Heap.SameBut.update s.heap a (Obj.mapSeq fun _=>(#[]:Array Value))
 generalize s.heap.update a (Obj.mapSeq fun _=>(#[]:Array Value))=g at g1 b1
 refine wpAny_bind (seqEpoch_at g1 rfl (wpAny_bind (wpAny_newTuple (hsz:=by simpa using small) (wpAny_bind (wpAny_newList (wpAny_holding ?_))))))
 rw[if_neg z,if_neg z]
 have g2:=Heap.get?_push_of_some (seqObj "list" #[] 0) (Heap.get?_push_of_some (seqObj "tuple" us.toArray 0) g1)
 have kg:∀ b ob,b ≠ a→s.heap.get? b=some ob→((g.push (seqObj "tuple" us.toArray 0)).push (seqObj "list" #[] 0)).get? b=some ob:=fun b ob nb q=>Heap.get?_push_of_some _ (Heap.get?_push_of_some _ ((b1.2 b nb).trans q))
 show wpAny (model prog w) A _ G E { s with heap:=(g.push (seqObj "tuple" us.toArray 0)).push (seqObj "list" #[] 0) }
 generalize (g.push (seqObj "tuple" us.toArray 0)).push (seqObj "list" #[] 0)=g' at g2 kg
 have T':Tups g' us xs:=⟨T.len,fun i u x e1 e2=>by
  obtain⟨b,o,t,y,m,rfl,ho',hc,hd⟩:=T.at_ i u x e1 e2
  refine⟨b,o,t,y,m,rfl,kg b o (fun z=> ?_) ho',hc,hd⟩
  rw[z,ho]at ho'
  cases ho'
  exact absurd (show Value.type "list" = Value.type "tuple" from hc) (by decide)⟩
 obtain⟨fs,kt,lf,hf⟩:=qa7 T'
 refine wpAny_bind (PySem.W.kat_kind (T:= .type "str") kt (by omega) (fun f hf'=> ?_) rfl ?_)
 ·obtain⟨x,t,rfl⟩:=hf f hf'
  exact PySem.W.Looks.of_pure rfl
 rw[show (Value.type "str" != Value.type "tuple")=true by decide]
 refine wpAny_bind (wpAny_mono (PySem.W.kat_run (ks:=us) (vs:=us) (Q:=fun st' s'=>s'={ s with heap:=g' }∧∃ p:Array Nat,arrOf st'=p.map (PySem.W.kas_item (us.toArray.zip us.toArray))∧failedOf st'=none∧Pn us.length p∧Up (fun i j=>ltS (gx xs i) (gx xs j)) p us.length)
  rfl (by omega) h64 (G:=fun p s'=>s'={ s with heap:=g' }∧Pn us.length p∧Up (fun i j=>ltS (gx xs i) (gx xs j)) p us.length) (fun p st' s' _ h4 h5 h6=>⟨h6.1,p,h4,h5,h6.2⟩) ?_) ?_ fun _ _ e=>e)
 ·have O:=qkr nd
  rw[← T.len]at O
  exact qgs (fun i j C hi hj hij hC=>qew (s:={ s with heap:=g' }) T' nd i j C (by rw[← T.len];exact hi) (by rw[← T.len];exact hj) hij hC) (qjf O (by omega) fun p' hp' up=>⟨rfl,hp',up⟩)
 rintro⟨⟨⟩,st'⟩ s' ⟨rfl,p,har,hfl,hpn,hup⟩
 dsimp only
 have es:=PySem.W.kat_snds (ks:=us) (vs:=us) rfl har
 refine wpAny_bind (seqEpoch_at g2 rfl ?_)
 rw[es]
 have lp:(p.toList.map fun i=>us.getD i Value.none).length=us.length:=by rw[List.length_map,Array.length_toList,hpn.size]
 refine wpAny_bind (listUpdate_at g2 rfl ?_ (Nat.zero_le _) (by rw[List.size_toArray,lp];exact Nat.le_succ_of_le small))
 have g3:=get?_update_seq g2 (fun _=>(p.toList.map fun i=>us.getD i Value.none).toArray)
 have b3:=Heap.SameBut.update g' a (Obj.mapSeq fun _=>(p.toList.map fun i=>us.getD i Value.none).toArray)
 rw[hfl]
 simp only[bne_self_eq_false,Bool.false_eq_true,if_false]
 refine wpAny_pure (k _ _ p.toList (fun b ob nb q=>(b3.2 b nb).trans (kg b ob nb q)) g3 hpn fun i j x y hij e1 e2=> ?_)
 have hj:j < us.length:=by
  have:=(List.getElem?_eq_some_iff.mp e2).1
  rw[Array.length_toList,hpn.size]at this
  exact this
 have:=hup i j hij hj
 have q1:gd p i=x:=by unfold gd;rw[Array.getD_eq_getD_getElem?,← Array.getElem?_toList,e1];rfl
 have q2:gd p j=y:=by unfold gd;rw[Array.getD_eq_getD_getElem?,← Array.getElem?_toList,e2];rfl
 rw[q1,q2]at this
 exact this
end
end L2
end
section
namespace L2
open PySem PySem.Spec PyProof.Rows
def inrs {α:Type} (rows:List (Str×α)):List (Key×α):=rows.map fun q=>((Sum.inr q.1:Key),q.2)
theorem qe0 {κ:Type}:∀ {kvs:List (κ×V)} {vs:List (κ×Value)},KV kvs vs→kvs.map (·.1)=vs.map (·.1)
 | _,_,.nil=>rfl
 | _,_,.cons h t=>by rw[List.map_cons,List.map_cons,qe0 t,h.1]
theorem qap {α:Type} {rows:List (Str×α)} (h:((inrs rows).map (·.1)).Nodup):(rows.map (·.1)).Nodup:=by
 have e:(inrs rows).map (·.1)=(rows.map (·.1)).map (Sum.inr:Str→Key):=by unfold inrs;rw[List.map_map,List.map_map];rfl
 rw[e]at h
 exact List.Pairwise.of_map (Sum.inr:Str→Key) (fun a b z e=>z (by rw[e])) h
def q35 {α:Type} (rows:List (Str×α)):Prop:=rows.Pairwise fun a b=>ltS a.1 b.1=true
theorem qd5 {α:Type} (l:List α) (d:α) {p:List Nat} (h:p.Perm (List.range l.length)):(p.map fun i=>l.getD i d).Perm l:=by
 have:=h.map fun i=>l.getD i d
 rw[q3v]at this
 exact this
theorem q33 {α:Type} {l:List α} {i:Nat} {d:α} (h:i < l.length):l.getD i d=l[i]:=by rw[List.getD_eq_getElem?_getD,List.getElem?_eq_getElem h];rfl
section
variable {X:Cx}
theorem q7m (hc:X.calm=true):q44 X (.builtin "sorted") (fun xs H Q=>∃ (v d:Addr) (rows:List (Str×V)),xs=[.ref v]∧H v=some (.ext fun h=>h.IsItemsView v d)∧H d=some (.dK (inrs rows))∧rows.length < 64 ∧
  ∀ p as rows' H',H p=none→H' p=some (.lst (as.map V.ref))→(rows.map (·.1)).Nodup→rows'.Perm rows→q35 rows'→Itms H' as (inrs rows')→Kp [] H H'→Q (.ref p) H'):=by
 intro pins s σ H xs us Q I r h
 obtain⟨v,d,rows,rfl,hv,hd,h64,q⟩:=h
 obtain⟨u,rfl,ru⟩:=q5z r
 obtain rfl:u=Value.ref v:=ru
 obtain⟨vw,_⟩:=I.hok v _ hv
 obtain⟨hz,lo,vs,kv,o,es,ep,ho,hx,hdd,hk,hp,hn⟩:=(show q1n X.prog X.w H s.heap d (.dK (inrs rows)) from I.hok d _ hd)
 have hl:vs.length=(inrs rows).length:=(Paired.length kv).symm
 have hlr:(inrs rows).length=rows.length:=by unfold inrs;rw[List.length_map]
 have nd:(rows.map (·.1)).Nodup:=qap (by rw[qe0 kv];exact hn)
 refine Calls.call_function_entry kind_sorted plain_sorted entry_sorted (args_sorted1 _) ?_
 unfold Builtin.«sorted»
 refine wpAny_bind (m:=checkCount "sorted" 1 1 _) (wpAny_pure (wpAny_bind (PySem.W.kdx_collect (A:=X.A.in1) (knd:=q1b X.prog X.w) (kvs:=vs) (ep:=ep) (I.ok.hd hc) vw ⟨o,es,ho,hx,hdd,hk,hp,hn⟩ (by rw[hl];exact hz) fun h' tk as kp hlen G=> ?_)))
 obtain⟨H',I',k',T,fr⟩:=q6c (tk:=tk) I kv (Nat.le_refl _) kp hlen G
 have las:as.length=rows.length:=by rw[hlen,hl,hlr]
 refine wpAny_bind (wpAny_newList ?_ (by rw[List.length_map,hlen,hl];exact hz))
 have hB:(h'.push (seqObj "list" (as.map Value.ref).toArray 0)).get? h'.objs.size=some (seqObj "list" (as.map Value.ref).toArray 0):=Heap.get?_push_size _ rfl
 have Tp:Tups (h'.push (seqObj "list" (as.map Value.ref).toArray 0)) (as.map Value.ref) (rows.map (·.1)):=⟨by rw[List.length_map,List.length_map,las],fun i u x e1 e2=>by
  rw[List.getElem?_map]at e1 e2
  cases ea:as[i]? with
  | none=>rw[ea]at e1;cases e1
  | some a =>
   cases er:rows[i]? with
   | none=>rw[er]at e2;cases e2
   | some row =>
    rw[ea]at e1
    rw[er]at e2
    cases e1
    cases e2
    have ha:=T.at_ i a ((Sum.inr row.1:Key),row.2) ea (by unfold inrs;rw[List.getElem?_map,er];rfl)
    obtain⟨_,its,rt,ob,h1,h2,m,h3⟩:=(show q1n X.prog X.w H' h' a (.tup [kV (Sum.inr row.1),row.2]) from I'.hok a _ ha)
    obtain⟨u1,u2,rfl,r1,r2⟩:=qg5 rt
    obtain⟨t,rfl⟩:=r1
    exact⟨a,ob,t,u2,m,rfl,Heap.get?_push_of_some _ h1,h2,h3⟩⟩
 refine wpAny_bind (wpAny_holding (wpAny_call_entry slot_list_sort ⟨_,hB,rfl⟩ entry_list_sort (qcq hB Tp nd (by rw[List.length_map,las];exact h64) fun hf c p kf hc' pp up=>⟨_,rfl,wpAny_pure ⟨_,rfl,?_⟩⟩) (args_list_sort _)))
 have kpf:∀ b ob,h'.get? b=some ob→hf.get? b=some ob:=fun b ob e=>kf b ob (Nat.ne_of_lt (Heap.lt_size e)) (Heap.get?_push_of_some _ e)
 have pp':p.Perm (List.range rows.length):=by rw[← las,← List.length_map (f:=Value.ref) (as:=as)];exact pp
 have bd:∀ i ∈ p,i < rows.length:=fun i hi=>List.mem_range.mp (pp'.mem_iff.mp hi)
 have lp:p.length=rows.length:=by have:=pp'.length_eq;rwa [List.length_range]at this
 have em:(p.map fun i=>(as.map Value.ref).getD i Value.none)=(p.map fun i=>as.getD i 0).map Value.ref:=by
  rw[List.map_map]
  refine List.map_congr_left fun i hi=> ?_
  have h1:i < as.length:=by rw[las];exact bd i hi
  show (as.map Value.ref).getD i Value.none=Value.ref (as.getD i 0)
  rw[q33 (by rw[List.length_map];exact h1),List.getElem_map,q33 h1]
 rw[em]at hc'
 have I2:Inv X pins σ (upd H' h'.objs.size (.lst ((p.map fun i=>as.getD i 0).map V.ref))) { s with heap:=hf,toks:=tk }:=I'.laid (t':=tk) (o:= .lst ((p.map fun i=>as.getD i 0).map V.ref)) kpf (Nat.le_refl _) ⟨by rw[List.length_map,List.length_map,lp,← hlr];exact hz,(p.map fun i=>as.getD i 0).map Value.ref,c,q4i _,hc'⟩
 have hn':H' h'.objs.size=none:=I'.fresh
 refine⟨.ref h'.objs.size,_,I2,rfl,q _ (p.map fun i=>as.getD i 0) (p.map fun i=>rows.getD i (⟨#[]⟩,.int 0)) _ (k'.free hn') q03 nd (qd5 _ _ pp') ?_ ⟨?_,fun j a kv e1 e2=> ?_⟩ (k'.trans (Kp.new hn'))⟩
 ·unfold q35
  rw[List.pairwise_iff_getElem]
  intro i j hi hj hij
  have hi':i < p.length:=by simpa using hi
  have hj':j < p.length:=by simpa using hj
  have b1:=bd _ (List.getElem_mem hi')
  have b2:=bd _ (List.getElem_mem hj')
  have:=up i j p[i] p[j] hij (List.getElem?_eq_getElem hi') (List.getElem?_eq_getElem hj')
  unfold gx at this
  rw[List.getElem?_map,List.getElem?_map,List.getElem?_eq_getElem b1,List.getElem?_eq_getElem b2]at this
  rw[List.getElem_map,List.getElem_map,q33 b1,q33 b2]
  exact this
 ·unfold inrs
  rw[List.length_map,List.length_map,List.length_map]
 ·unfold inrs at e2
  rw[List.getElem?_map]at e1 e2
  rw[List.getElem?_map]at e2
  cases ei:p[j]? with
  | none=>rw[ei]at e1;cases e1
  | some i =>
   rw[ei]at e1 e2
   have b1:=bd i (List.mem_of_getElem? ei)
   have b2:i < as.length:=by rw[las];exact b1
   cases e1
   cases e2
   dsimp only
   rw[q33 b1,q33 b2]
   have ha:=T.at_ i as[i] ((Sum.inr rows[i].1:Key),rows[i].2) (List.getElem?_eq_getElem b2) (by unfold inrs;rw[List.getElem?_map,List.getElem?_eq_getElem b1];rfl)
   rw[q0b (q0d ha hn')]
   exact ha
end
end L2
end
section
namespace L2
open PySem PySem.Spec PyProof.Rows
theorem q83:∀ (p:Str) (l:List Str),risingS p l=true→(p :: l).Nodup→(p :: l).Pairwise fun a b=>ltS a b=true
 | p,[],_,_=>List.pairwise_singleton _ _
 | p,x :: r,h,nd=>by
  unfold risingS at h
  rw[Bool.and_eq_true,Bool.not_eq_true',ltCps_eq]at h
  have hp:ltS p x=true:=by
   cases e:ltS p x with
   | true=>rfl
   | false =>
    have e2:ltS x p=false:=h.1
    have e3:=qef e e2
    subst e3
    have:=(List.nodup_cons.mp nd).1
    exact absurd (List.Mem.head _) this
  have ih:=q83 x r h.2 (List.nodup_cons.mp nd).2
  refine List.pairwise_cons.mpr ⟨fun a ha=> ?_,ih⟩
  rcases List.mem_cons.mp ha with e | z
  ·rw[e];exact hp
  ·exact qa8 hp ((List.pairwise_cons.mp ih).1 a z)
theorem qb9:∀ {l:List Str},sortedS l=true→l.Nodup→l.Pairwise fun a b=>ltS a b=true
 | [],_,_=>List.Pairwise.nil
 | x :: r,h,nd=>q83 x r h nd
theorem q63 {α:Type}:∀ {r r':List (Str×α)},q35 r→q35 r'→(∀ q,q ∈ r ↔ q ∈ r')→r=r'
 | [],[],_,_,_=>rfl
 | [],b :: r',_,_,h=>absurd ((h b).mpr (List.Mem.head _)) (by simp)
 | a :: r,[],_,_,h=>absurd ((h a).mp (List.Mem.head _)) (by simp)
 | a :: r,b :: r',h1,h2,h=>by
  have a1:=List.pairwise_cons.mp h1
  have b1:=List.pairwise_cons.mp h2
  have e:a=b:=by
   rcases List.mem_cons.mp ((h a).mp (List.Mem.head _)) with e | m1
   ·exact e
   rcases List.mem_cons.mp ((h b).mpr (List.Mem.head _)) with e | m2
   ·exact e.symm
   have:=qa8 (a1.1 b m2) (b1.1 a m1)
   rw[q73]at this
   cases this
  subst e
  rw[q63 a1.2 b1.2 fun q=> ?_]
  constructor
  ·intro z
   rcases List.mem_cons.mp ((h q).mp (List.Mem.tail _ z)) with e | m
   ·have:=a1.1 q z
    rw[e,q73]at this
    cases this
   ·exact m
  ·intro z
   rcases List.mem_cons.mp ((h q).mpr (List.Mem.tail _ z)) with e | m
   ·have:=b1.1 q z
    rw[e,q73]at this
    cases this
   ·exact m
theorem q5x {K:PySem.W.Frag} {i j:Nat} {ix:List (Option Nat)} {g:TG} {tc:TT} {te:TE} {D:Ends} {σ:St} {H:Hp} {d:Addr} {rows:List (Str×V)} (hv:σ[j]? = some (some (.ref d))) (hd:H d=some (.dK (inrs rows))) (h64:rows.length < 64)
  (h:∀ lp ss HL,Kp [] H HL→HL lp=some (.lst (ss.map V.str))→ss.Perm (rows.map (·.1))→sortedS ss=true→∀ D0,HL D0=none→∃ Pv:Nat→St→List V→Hp→Prop,Pv 0 (q6v ix σ) [] (upd HL D0 (.lst [])) ∧
   (∀ i σ ys H,i≤(ss.map V.str).length→Pv i σ ys H→SqL K H lp (ss.map V.str)∧H D0=some (.lst ys)) ∧
   (∀ i x σ ys H,(ss.map V.str)[i]? = some x→Pv i σ ys H→g x σ H fun σ2 H2=>tc σ2 H2 fun b H3 =>
    if b=true then te σ2 H3 fun y H4=>H4 D0=some (.lst ys)∧ys.length < sizeLine∧Pv (i + 1) σ2 (ys ++ [y]) (upd H4 D0 (.lst (ys ++ [y]))) else Pv (i + 1) σ2 ys H3) ∧
   ∀ σ' ys H',Pv (ss.map V.str).length σ' ys H'→D.nx (σ.set i (some (.ref D0))) H') :
  q9y i (qax (qee K (tCB (fun xs H Q=>∃ (l:Addr) (ss:List Str),xs=[.ref l]∧SqL K H l (ss.map V.str)∧ss.length < 64∧∀ p ss',H p=none→ss'.Perm ss→sortedS ss'=true→Q (.ref p) (upd H p (.lst (ss'.map V.str))))
   (q71 (tCB (fun xs H Q=>∃ (d:Addr) (kvs:List (Key×V)),xs=[.ref d]∧H d=some (.dK kvs)∧∀ p,H p=none→Q (.ref p) (upd H p (.lst (kvs.map fun (q:Key×V)=>kV q.1)))) (q71 (tVar j) tNil)) tNil))) ix g tc te) D σ H:=by
 have eL:((inrs rows).map fun (q:Key×V)=>kV q.1)=(rows.map (·.1)).map V.str:=by unfold inrs;rw[List.map_map,List.map_map];rfl
 refine⟨_,hv,d,_,rfl,hd,fun lp hlp=>⟨lp,rows.map (·.1),rfl,SqL.of (by rw[q03,eL]),by rw[List.length_map];exact h64,fun p ss' hp pm st=> ?_⟩⟩
 refine⟨p,rfl,⟨_,SqL.of q03⟩,fun D0 hD=> ?_⟩
 obtain⟨Pv,h0,h1,h2,h3⟩:=h p ss' _ ((Kp.new hlp).trans (Kp.new hp)) q03 pm st D0 hD
 exact q2r (Q:=fun x H'=>D.nx (σ.set i (some x)) H') Pv h0 h1 h2 h3
end L2
end
section
namespace L2
open PySem PySem.Spec PyProof.Rows
open AutoSeq1 (wpAny_loadPart')
open MeetsSeq MeetsSeq2 MeetsSeq3
section
variable {pg:Program} {w:World} {l m:Addr} {xs ys:Array Value} {n1 n2:Nat} {d1 d2:Option Addr} {q1 q2:Array (Option Value)}
theorem q9s (hz:xs.size=ys.size):∀ (k i:Nat),xs.size - i=k→∀ (A:Around) (R:Result→Shared→Prop) (s:Shared),s.heap.get? l=some { cls:= .type "list",dict:=d1,data:= .seq xs n1,slots:=q1 }→s.heap.get? m=some { cls:= .type "list",dict:=d2,data:= .seq ys n2,slots:=q2 } →
  (∀ j (a:j < xs.size) (b:j < ys.size) (E:Value→Shared→Prop) (Q:Bool→Shared→Prop),Q true s→wpAny (model pg w) A.in1 (eqBool xs[j] ys[j]) Q E s)→R (.ok (.ret (.bool false))) s →
  wpAny (model pg w) A.in1 (Builtin.«list.__eq__.loop» ⟨[.ref l,.ref m,rawInt i,rawInt 3],[]⟩) (fun fin s'=>match fin with | .done f=>R (.ok f) s' | .again c'=>c'.quiet=true∧codeAny (model pg w) A c' R s') (fun e s'=>R (.error e) s') s
 | 0,i,hk,A,R,s,h1,h2,he,hr=>by
  obtain⟨hp,g,d,tk,os⟩:=s
  wp_walk using wpAny_loadPart' h1,wpAny_loadPart' h2
  have z1:xs[((i:Nat):Int).toNat]? = none:=by simp;omega
  have z2:ys[((i:Nat):Int).toNat]? = none:=by simp;omega
  rw[z1,z2]
  wp_walk using wpAny_loadPart' h1,wpAny_loadPart' h2
  show R (.ok (.ret (.bool (xs.size != ys.size)))) _
  rw[hz]
  simpa using hr
 | k + 1,i,hk,A,R,s,h1,h2,he,hr=>by
  obtain⟨hp,g,d,tk,os⟩:=s
  wp_walk using wpAny_loadPart' h1,wpAny_loadPart' h2
  have i1:i < xs.size:=by omega
  have i2:i < ys.size:=by omega
  have z1:xs[((i:Nat):Int).toNat]? = some xs[i]:=by simp[i1]
  have z2:ys[((i:Nat):Int).toNat]? = some ys[i]:=by simp[i2]
  rw[z1,z2]
  refine wpAny_bind (he i i1 i2 _ _ ?_)
  wp_walk
  rw[show ((i:Int) + 1)=((i + 1:Nat):Int) by omega]
  refine⟨plainId_quiet plain_eq_loop _,codeAny_builtin entry_eq_loop ?_⟩
  rw[Around.under_plainId plain_eq_loop _]
  exact q9s hz k (i + 1) (by omega) A R _ h1 h2 he hr
theorem qi3 (hz:xs.size=ys.size) {A:Around} {E:Value→Shared→Prop} {Q:Value→Shared→Prop} {s:Shared} (h1:s.heap.get? l=some { cls:= .type "list",dict:=d1,data:= .seq xs n1,slots:=q1 }) (h2:s.heap.get? m=some { cls:= .type "list",dict:=d2,data:= .seq ys n2,slots:=q2 }) (hu:A.units < cLine)
  (he:∀ j (a:j < xs.size) (b:j < ys.size) (E:Value→Shared→Prop) (Q:Bool→Shared→Prop),Q true s→wpAny (model pg w) A.in1 (eqBool xs[j] ys[j]) Q E s) (hq:Q (.bool false) s):wpAny (model pg w) A (richCompare .NotEq (.ref l) (.ref m)) Q E s:=by
 have t1:s.TypeIs (.ref l) "list" := ⟨_,h1,rfl⟩
 refine wpAny_richCompare_same_room (op:= .NotEq) t1 ⟨_,h2,rfl⟩ F.slot_list_ne (wpAny_call (codeAny_call_builtin F.slot_list_ne.plain F.entry_list_ne (F.slot_list_ne.check _ _ _ _ _ _ _ _ t1 (F.args_list_ne_2 _ _) ?_))) hu
 obtain⟨hp,g,d,tk,os⟩:=s
 have f3:=AutoSeq1.sub_list_list
 have nz:¬ (xs.size != ys.size)=true:=by simp[hz]
 wp_walk using wpAny_loadPart' h1,wpAny_loadPart' h2
 refine⟨plainId_quiet plain_eq_loop _,codeAny_builtin entry_eq_loop ?_⟩
 rw[Around.under_plainId plain_eq_loop _]
 exact q9s hz _ 0 rfl A (wants (fun v s'=>v ≠ .notImplemented∧Q v s') E) _ h1 h2 he ⟨(fun z=>nomatch z),hq⟩
end
theorem qf2 {pg:Program} {w:World} {A:Around} {s:Shared} {E:Value→Shared→Prop} {Q:Bool→Shared→Prop} {a b:Addr} (ne:a ≠ b) (h:wpAny (model pg w) A (richCompare .Eq (.ref a) (.ref b)) (fun v s'=>v= .bool true∧s'=s) E s) (hq:Q true s):wpAny (model pg w) A (eqBool (.ref a) (.ref b)) Q E s:=by
 unfold eqBool
 refine wpAny_holding (wpAny_ite_split (fun z=>absurd (by have:=eq_of_beq z;injection this) ne) fun _=>wpAny_bind (wpAny_mono h (fun v s' e=> ?_) fun _ _ z=>z))
 obtain⟨rfl,rfl⟩:=e
 exact wpAny_truthy_bool hq
section
variable {X:Cx}
def qlx (K:PySem.W.Frag):R2:=fun x y H Q=>∃ (a b:Addr) (as bs:List Addr) (Ts:List (List (Key×V))),x= .ref a∧y= .ref b∧H a=some (.lst (as.map V.ref))∧H b=some (.lst (bs.map V.ref))∧as.length=Ts.length∧bs.length=Ts.length ∧
 (∀ (j:Nat) c T,as[j]? = some c→Ts[j]? = some T→H c=some (.dK T))∧(∀ (j:Nat) c T,bs[j]? = some c→Ts[j]? = some T→H c=some (.dK T))∧(∀ T ∈ Ts,∀ p ∈ T,q7k p.2=true)∧Q (.bl false) H
theorem qi5 (hu:X.A.units + 64 < cLine):OpR X (compareOp .NotEq) (qlx X.K):=by
 intro pins s σ H x y v u Q I rx ry h
 obtain⟨a,b,as,bs,Ts,rfl,rfl,ha,hb,la,lb,ea,eb,hf,q⟩:=h
 obtain rfl:v=Value.ref a:=rx
 obtain rfl:u=Value.ref b:=ry
 obtain⟨_,ia,n1,ra,ga⟩:=(show q1n X.prog X.w H s.heap a (.lst (as.map V.ref)) from I.hok a _ ha)
 obtain⟨_,ib,n2,rb,gb⟩:=(show q1n X.prog X.w H s.heap b (.lst (bs.map V.ref)) from I.hok b _ hb)
 have e1:=q5s ra
 have e2:=q5s rb
 subst e1 e2
 refine qi3 (pg:=X.prog) (w:=X.w) (l:=a) (m:=b) (xs:=(as.map Value.ref).toArray) (ys:=(bs.map Value.ref).toArray) (d1:=none) (d2:=none) (q1:= #[]) (q2:= #[]) (by simp;omega) ga gb (by omega) (fun j h1 h2 E' Q' hq=> ?_) ⟨.bl false,H,I,rfl,q⟩
 have j1:j < as.length:=by simpa using h1
 have j2:j < bs.length:=by simpa using h2
 have jT:j < Ts.length:=by omega
 have eT:=List.getElem?_eq_getElem jT
 have hc:=ea j _ _ (List.getElem?_eq_getElem j1) eT
 have hd:=eb j _ _ (List.getElem?_eq_getElem j2) eT
 have hfT:=hf _ (List.getElem_mem jT)
 have g1:(as.map Value.ref).toArray[j]=Value.ref as[j]:=by simp
 have g2:(bs.map Value.ref).toArray[j]=Value.ref bs[j]:=by simp
 rw[g1,g2]
 by_cases ne:as[j]=bs[j]
 ·rw[ne]
  exact SeqAt.EqAt.same (A:=X.A.in1) (s:=s) (Value.ref bs[j]) X.prog X.w E' Q' hq
 ·refine qf2 ne ?_ hq
  obtain⟨_,na,va,ka,da⟩:=qez I.hok hc
  obtain⟨_,nb,vb,kb,db⟩:=qez I.hok hd
  have hn:(vb.map (·.1)).Nodup:=by obtain⟨_,_,_,_,_,_,_,_,z⟩:=db;exact z
  refine PySem.W.keq_eq na nb da db (by show X.A.units + 1 < cLine;omega) (fun _=>q89 ka kb (fun p hp=>hp) hn hfT) ⟨?_,rfl⟩
  have e:va.length=vb.length:=ka.length.symm.trans kb.length
  rw[e]
  simp
theorem q76 {K:PySem.W.Frag} {tl:TE} {ix:List (Option Nat)} {g:TG} {tc:TT} {te:TE} {σ:St} {H:Hp} {Q:VK} {d:Addr} {kvs:List (Key×V)} (hev:∀ R:VK,R (.ref d) H→tl σ H R) (hd:H d=some (.dK kvs))
  (h:∀ lp,H lp=none→∀ D0,(upd H lp (.lst (kvs.map fun (q:Key×V)=>kV q.1))) D0=none→∃ Pv:Nat→St→List V→Hp→Prop,Pv 0 (q6v ix σ) [] (upd (upd H lp (.lst (kvs.map fun (q:Key×V)=>kV q.1))) D0 (.lst [])) ∧
   (∀ i σ ys H,i≤(kvs.map fun (q:Key×V)=>kV q.1).length→Pv i σ ys H→SqL K H lp (kvs.map fun (q:Key×V)=>kV q.1)∧H D0=some (.lst ys)) ∧
   (∀ i x σ ys H,(kvs.map fun (q:Key×V)=>kV q.1)[i]? = some x→Pv i σ ys H→g x σ H fun σ2 H2=>tc σ2 H2 fun b H3 =>
    if b=true then te σ2 H3 fun y H4=>H4 D0=some (.lst ys)∧ys.length < sizeLine∧Pv (i + 1) σ2 (ys ++ [y]) (upd H4 D0 (.lst (ys ++ [y]))) else Pv (i + 1) σ2 ys H3) ∧
   ∀ σ' ys H',Pv (kvs.map fun (q:Key×V)=>kV q.1).length σ' ys H'→Q (.ref D0) H') :
  qax (qee K (tCB (fun xs H Q=>∃ (d:Addr) (kvs:List (Key×V)),xs=[.ref d]∧H d=some (.dK kvs)∧∀ p,H p=none→Q (.ref p) (upd H p (.lst (kvs.map fun (q:Key×V)=>kV q.1)))) (q71 tl tNil))) ix g tc te σ H Q :=
 hev _ ⟨d,kvs,rfl,hd,fun lp hlp=>⟨lp,rfl,⟨_,SqL.of q03⟩,fun D0 hD=>let ⟨Pv,h0,h1,h2,h3⟩:=h lp hlp D0 hD;q2r (Q:=Q) Pv h0 h1 h2 h3⟩⟩
end
end L2
end
section
namespace K07
open PySem L2
def top (i:Nat):Stmt:=PySem.Challenge.pw_trailbook_k07_plain_yard.main.body.getD i (.Pass ⟨0,0,0,0⟩)
abbrev sDo:Stmt:=(top 7)
abbrev sUn:Stmt:=(top 8)
abbrev sBeh:Stmt:=(top 9)
abbrev sNx:Stmt:=(top 10)
abbrev qba:Stmt:=(q1m (top 5) 0)
abbrev sHas:Stmt:=(q1m (top 5) 1)
abbrev qb3:Stmt:=(q1m (top 5) 2)
abbrev q6q:Stmt:=(q1m (top 5) 3)
abbrev qan:Stmt:=(q1m (top 5) 4)
abbrev sPut:Stmt:=(q1m (top 5) 5)
abbrev qb5:Stmt:=(q1m (top 5) 6)
abbrev qat:Stmt:=(q1m (top 12) 0)
abbrev q41:Stmt:=(q1m (top 12) 1)
abbrev q5u:Stmt:=(q1m (top 12) 2)
abbrev rGo:Stmt:=(q1m (top 12) 3)
abbrev q2w:Stmt:=(q1m (top 12) 4)
abbrev rReq:Stmt:=(q1m (top 12) 5)
abbrev qbh:Stmt:=(q1m (top 12) 6)
abbrev q4t:Stmt:=(q1m (top 12) 7)
abbrev q3k:Stmt:=(q1m (top 12) 8)
abbrev q3n:Stmt:=(q1m (top 12) 9)
abbrev qb0:Stmt:=(q1m (top 12) 10)
abbrev q96:Stmt:=(q1m (top 12) 11)
abbrev qbe:Stmt:=(q1m (top 12) 12)
abbrev qbt:Stmt:=(q1m (top 12) 13)
abbrev q92:Stmt:=(top 14)
abbrev q3y:Stmt:=(top 15)
abbrev q3o:Stmt:=(top 16)
abbrev q6b:Stmt:=(top 17)
structure Blt (mg:Str→Option Value):Prop where
 len:mg "len" = none
 isinstance:mg "isinstance" = none
 dict:mg "dict" = none
 list_:mg "list" = none
 tuple:mg "tuple" = none
 int_:mg "int" = none
 bool:mg "bool" = none
 str:mg "str" = none
 range:mg "range" = none
 enumerate:mg "enumerate" = none
 min:mg "min" = none
 max:mg "max" = none
 sorted:mg "sorted" = none
 set_:mg "set" = none
 sum_:mg "sum" = none
 abs:mg "abs" = none
 zip:mg "zip" = none
 any_:mg "any" = none
 all_:mg "all" = none
 reversed:mg "reversed" = none
abbrev En:=Str×Int
inductive Nx where
 | dO (i:Int) | un (i:Int) | dn | ud
 deriving DecidableEq
def Nx.vs:Nx→List V
 | .dO i=>[.str "do",.int i]
 | .un i=>[.str "undo",.int i]
 | .dn=>[.str "end",.str "done"]
 | .ud=>[.str "end",.str "undone"]
def enV (e:En):List V:=[.str e.1,.int e.2]
def doD (m s:Int):Nx:=if s < m then .dO s else .dn
def unD (s:Int):Nx:=if 0≤s then .un s else .ud
def nb (m:Int) (e:En):Nx:=if e.1= "did" then doD m (e.2 + 1) else if e.1= "unsure" then unD e.2 else unD (e.2 - 1)
def nxOf (m:Int) (t:List En):Nx:=match t.getLast? with
 | none=>doD m 0
 | some e=>nb m e
def q8p (e:En):Nx→Bool
 | .dO i=>decide ((e.1= "did" ∨ e.1= "no" ∨ e.1= "unsure")∧e.2=i)
 | .un i=>decide (e.1= "undid" ∧ e.2=i)
 | _=>false
theorem q27 {α:Type} {l:List α} {i:Nat} {x:α} (h:l[i]? = some x):l.take (i + 1)=l.take i ++ [x]:=by
 rw[List.take_add_one,h];rfl
theorem q8q (m:Int) (t:List En) (e:En):nxOf m (t ++ [e])=nb m e:=by
 unfold nxOf
 rw[List.getLast?_append]
 rfl
structure Ents (H:Hp) (as:List Addr) (t:List En):Prop where
 len:as.length=t.length
 at_:∀ (i:Nat) a e,as[i]? = some a→t[i]? = some e→H a=some (.tup (enV e))
theorem Ents.keep {H H':Hp} {as:List Addr} {t:List En} {ex:List Addr} (h:Ents H as t) (k:Kp ex H H') (hn:∀ a ∈ ex,∀ e,H a ≠ some (.tup e)):Ents H' as t :=
 ⟨h.len,fun i a e e1 e2=>k.get (h.at_ i a e e1 e2) fun z=>hn a z _ (h.at_ i a e e1 e2)⟩
theorem Ents.same {H H':Hp} {as:List Addr} {t:List En} (h:Ents H as t) (k:Kp [] H H'):Ents H' as t:=h.keep k (by simp)
theorem Ents.get {H:Hp} {as:List Addr} {t:List En} (h:Ents H as t) {i:Nat} {a:Addr} (e:as[i]? = some a):∃ x,t[i]? = some x∧H a=some (.tup (enV x)):=by
 have hi:i < t.length:=by rw[← h.len];exact(List.getElem?_eq_some_iff.mp e).1
 exact⟨t[i],List.getElem?_eq_getElem hi,h.at_ i a _ e (List.getElem?_eq_getElem hi)⟩
theorem qca {α:Type} {l:List α} (h:l ≠ []):∃ l' x,l=l' ++ [x]:=⟨l.dropLast,l.getLast h,(List.dropLast_concat_getLast h).symm⟩
theorem Ents.snoc {H:Hp} {as:List Addr} {t:List En} (h:Ents H as t) (hn:as ≠ []):∃ as' a t' e,as=as' ++ [a]∧t=t' ++ [e]∧H a=some (.tup (enV e))∧Ents H as' t':=by
 have ht:t ≠ []:=fun z=>by have:=h.len;rw[z]at this;exact hn (List.length_eq_zero_iff.mp this)
 obtain⟨as',a,rfl⟩:=qca hn
 obtain⟨t',e,rfl⟩:=qca ht
 have hl:as'.length=t'.length:=by have:=h.len;simp at this;exact this
 refine⟨as',a,t',e,rfl,rfl,h.at_ as'.length a e (by simp) (by rw[hl];simp),hl,fun i b x e1 e2=>h.at_ i b x ?_ ?_⟩
 ·rw[List.getElem?_append_left (List.getElem?_eq_some_iff.mp e1).1];exact e1
 ·rw[List.getElem?_append_left (List.getElem?_eq_some_iff.mp e2).1];exact e2
theorem Ents.app {H:Hp} {as bs:List Addr} {t u:List En} (h:Ents H as t) (h':Ents H bs u):Ents H (as ++ bs) (t ++ u):=by
 refine⟨by simp[h.len,h'.len],fun i a e e1 e2=> ?_⟩
 by_cases hi:i < as.length
 ·rw[List.getElem?_append_left hi]at e1
  rw[List.getElem?_append_left (by rw[← h.len];exact hi)]at e2
  exact h.at_ i a e e1 e2
 ·rw[List.getElem?_append_right (by omega)]at e1
  rw[List.getElem?_append_right (by rw[← h.len];omega)]at e2
  exact h'.at_ _ a e e1 (by rw[h.len];exact e2)
theorem Ents.one {H:Hp} {a:Addr} {e:En} (h:H a=some (.tup (enV e))):Ents H [a] [e]:=⟨rfl,fun i b x e1 e2=>by
 cases i with
 | zero=>simp at e1 e2;subst e1 e2;exact h
 | succ n=>simp at e1⟩
theorem Ents.nil (H:Hp):Ents H [] []:=⟨rfl,fun i a e e1 _=>by simp at e1⟩
structure TrAt (H:Hp) (l:Addr) (as:List Addr) (t:List En):Prop where
 ls:H l=some (.lst (as.map V.ref))
 en:Ents H as t
theorem TrAt.same {H H':Hp} {l:Addr} {as:List Addr} {t:List En} (h:TrAt H l as t) (k:Kp [] H H'):TrAt H' l as t:=⟨k.get h.ls nEm,h.en.same k⟩
def spDo:Sp:=fun vs H Q _=>∃ m s:Int,vs=[.int m,.int s]∧∀ p H',H p=none→H' p=some (.tup (doD m s).vs)→Kp [] H H'→Q (.ref p) H'
def spUn:Sp:=fun vs H Q _=>∃ s:Int,vs=[.int s]∧∀ p H',H p=none→H' p=some (.tup (unD s).vs)→Kp [] H H'→Q (.ref p) H'
def ql1:Sp:=fun vs H Q _=>∃ (m:Int) (e:En),vs=[.int m,.str e.1,.int e.2]∧∀ p H',H p=none→H' p=some (.tup (nb m e).vs)→Kp [] H H'→Q (.ref p) H'
def spNx:Sp:=fun vs H Q _=>∃ (m:Int) (l:Addr) (as:List Addr) (t:List En),vs=[.int m,.ref l]∧TrAt H l as t∧∀ p H',H p=none→H' p=some (.tup (nxOf m t).vs)→Kp [] H H'→Q (.ref p) H'
section
variable {P:Program} {w:World} {K:PySem.W.Frag} {mg:Str→Option Value} {base:Heap}
theorem qlw:FnScope ["many","step"] ["many","step"] (q06 sDo):=⟨rfl,rfl,rfl,by decide +kernel,rfl,by decide +kernel,by decide +kernel⟩
theorem qlr {f:Addr} {fd:FuncData} (Fn:Fun K "do_or_done" "do_or_done" sDo f fd):FnOk P w K mg base CX0 1 f fd ["many","step"] spDo:=by
 refine Fn.ok qlw (fun vs H Q E h=> ?_) (fun cdv A outer s H vs Q E hr h=> ?_)
 ·obtain⟨m,i,rfl,_⟩:=h
  rfl
 ·obtain⟨m,i,rfl,k⟩:=h
  refine⟨_,(q01 (q0q (q0f q5n (pv 1) (pv 0) (q0i _))
   (q07 (q0a (q19 (q00 q09 (q00 (pv 1) q05)))))
   q0c)
   (q07 (q0a (q19 (q00 q09 (q00 q09 q05)))))),?_⟩
  unfold doD at k
  refine⟨_,rfl,_,rfl,_,_,rfl,rfl,_,rfl,?_⟩
  refine ite2 (fun h=> ?_) (fun h=> ?_)
  ·rw[if_pos (of_decide_eq_true h)]at k
   exact⟨_,rfl,(by show 2≤sizeLine;decide),fun p hp=>k p _ hp q03 (Kp.new hp)⟩
  ·rw[if_neg (fun z=>h (decide_eq_true z))]at k
   exact⟨(by show 2≤sizeLine;decide),fun p hp=>k p _ hp q03 (Kp.new hp)⟩
theorem qlj:FnScope ["step"] ["step"] (q06 sUn):=⟨rfl,rfl,rfl,by decide +kernel,rfl,by decide +kernel,by decide +kernel⟩
theorem qm1 {f:Addr} {fd:FuncData} (Fn:Fun K "undo_or_undone" "undo_or_undone" sUn f fd):FnOk P w K mg base CX0 1 f fd ["step"] spUn:=by
 refine Fn.ok qlj (fun vs H Q E h=> ?_) (fun cdv A outer s H vs Q E hr h=> ?_)
 ·obtain⟨i,rfl,_⟩:=h
  rfl
 ·obtain⟨i,rfl,k⟩:=h
  refine⟨_,(q01 (q0q (q0f q72 (pv 0) q02 (q0i _))
   (q07 (q0a (q19 (q00 q09 (q00 (pv 0) q05)))))
   q0c)
   (q07 (q0a (q19 (q00 q09 (q00 q09 q05)))))),?_⟩
  unfold unD at k
  refine⟨_,rfl,_,_,rfl,rfl,_,rfl,?_⟩
  refine ite2 (fun h=> ?_) (fun h=> ?_)
  ·rw[if_pos (of_decide_eq_true h)]at k
   exact⟨_,rfl,(by show 2≤sizeLine;decide),fun p hp=>k p _ hp q03 (Kp.new hp)⟩
  ·rw[if_neg (fun z=>h (decide_eq_true z))]at k
   exact⟨(by show 2≤sizeLine;decide),fun p hp=>k p _ hp q03 (Kp.new hp)⟩
theorem qjn:FnScope ["many","word","step"] ["many","word","step"] (q06 sBeh):=⟨rfl,rfl,rfl,by decide +kernel,rfl,by decide +kernel,by decide +kernel⟩
theorem qjm {f:Addr} {fd:FuncData} (Fn:Fun K "next_behind" "next_behind" sBeh f fd) (Ddo_or_done:Df P w K mg base CX0 1 "do_or_done" ["many","step"] spDo) (Dundo_or_undone:Df P w K mg base CX0 1 "undo_or_undone" ["step"] spUn) :
  FnOk P w K mg base CX0 2 f fd ["many","word","step"] ql1:=by
 refine Fn.ok qjn (fun vs H Q E h=> ?_) (fun cdv A outer s H vs Q E hr h=> ?_)
 ·obtain⟨m,e,rfl,_⟩:=h
  rfl
 ·obtain⟨m,⟨x,i⟩,rfl,k⟩:=h
  refine⟨_,(q01 (q0q (q0f q1i (pv 1) q09 (q0i _))
   (q07 (q0a (q18 Ddo_or_done (hr.mono (by decide)) q0z (q00 (pv 0) (q00 (q0l q24 (pv 2) q02) q05)))))
   q0c)
   (q01 (q0q (q0f q1i (pv 1) q09 (q0i _))
   (q07 (q0a (q18 Dundo_or_undone (hr.mono (by decide)) q0z (q00 (pv 2) q05))))
   q0c)
   (q07 (q0a (q18 Dundo_or_undone (hr.mono (by decide)) q0z (q00 (q0l q4j (pv 2) q02) q05)))))),?_⟩
  unfold nb at k
  dsimp only at k
  refine⟨_,rfl,rfl,_,rfl,?_⟩
  refine ite2 (fun h=> ?_) (fun h=> ?_)
  ·have h:=V.str.inj (of_decide_eq_true h)
   rw[if_pos h]at k
   exact⟨_,rfl,_,rfl,_,_,rfl,rfl,m,i + 1,rfl,k⟩
  ·rw[if_neg (fun z=>h (decide_eq_true (congrArg V.str z)))]at k
   refine⟨_,rfl,rfl,_,rfl,?_⟩
   refine ite2 (fun h=> ?_) (fun h=> ?_)
   ·have h:=V.str.inj (of_decide_eq_true h)
    rw[if_pos h]at k
    exact⟨_,rfl,i,rfl,k⟩
   ·rw[if_neg (fun z=>h (decide_eq_true (congrArg V.str z)))]at k
    exact⟨_,rfl,_,_,rfl,rfl,i - 1,rfl,k⟩
theorem qle:FnScope ["many","trail","last"] ["many","trail"] (q06 sNx):=⟨rfl,rfl,rfl,by decide +kernel,rfl,by decide +kernel,by decide +kernel⟩
theorem qm0 {f:Addr} {fd:FuncData} (Fn:Fun K "next_of" "next_of" sNx f fd) (Ddo_or_done:Df P w K mg base CX0 1 "do_or_done" ["many","step"] spDo) (Dnext_behind:Df P w K mg base CX0 2 "next_behind" ["many","word","step"] ql1) :
  FnOk P w K mg base CX0 3 f fd ["many","trail"] spNx:=by
 refine Fn.ok qle (fun vs H Q E h=> ?_) (fun cdv A outer s H vs Q E hr h=> ?_)
 ·obtain⟨m,l,as,t,rfl,_⟩:=h
  rfl
 ·obtain⟨m,l,as,t,rfl,T,k⟩:=h
  have nd:=qle.nd
  refine⟨_,(q01 (q0q (q1g (qf0 (pv 1) (fun _=>rfl)))
   (q07 (q0a (q18 Ddo_or_done (hr.mono (by decide)) q0z (q00 (pv 0) (q00 q02 q05)))))
   q0c)
   (q01 (q0s (i:=2) nd rfl (Or.inl rfl) (q0k q13 (pv 1) (qgb qa6 q02) (fun _ _=>rfl)))
   (q07 (q0a (q18 Dnext_behind (hr.mono (by decide)) q0z (q00 (pv 0) (q00 (q0k q0h (pv 2) q02 (fun _ _=>rfl)) (q00 (q0k q0h (pv 2) q02 (fun _ _=>rfl)) q05)))))))),?_⟩
  refine⟨_,rfl,_,.inl ⟨_,SqL.of T.ls,rfl⟩,?_⟩
  by_cases hn:as=[]
  ·subst hn
   have ht:t=[]:=List.length_eq_zero_iff.mp T.en.len.symm
   subst ht
   refine iteT ?_
   exact⟨_,rfl,m,0,rfl,k⟩
  ·obtain⟨as',a,t',⟨x,i⟩,rfl,rfl,ha,_⟩:=T.en.snoc hn
   rw[q8q]at k
   have e1:(!(List.map V.ref (as' ++ [a])).isEmpty)=true:=by simp
   rw[e1]
   refine iteF ?_
   refine⟨_,rfl,_,rfl,l,_,-1,.ref a,rfl,rfl,SqL.of T.ls,?_,?_⟩
   ·rw[List.map_append];exact qet _ _
   ·refine⟨_,rfl,_,rfl,a,_,_,_,rfl,rfl,SqT.of ha,q08 (j:=0) rfl,?_⟩
    exact⟨_,rfl,a,_,_,_,rfl,rfl,SqT.of ha,q08 (j:=1) rfl,m,(x,i),rfl,k⟩
end
end K07
end
section
namespace K07
open PySem L2
abbrev Tb:=List (Key×V)
abbrev Fb:=List (List Key×V)
def getI (T:Tb) (x:Str):Int:=match valV T (Sum.inr x:Key) with
 | some (.int i)=>i
 | _=>0
def q1r (T:Tb):Prop:=∀ k v,valV T k=some v→∃ i,v=V.int i
def FV (F:Fb):Prop:=∀ k v,valV F k=some v→v= .str "did" ∨ v= .str "no" ∨ v= .str "undid"
theorem q1r.get {T:Tb} (h:q1r T) (x:Str):(valV T (Sum.inr x:Key)).getD (.int 0)= .int (getI T x):=by
 unfold getI
 cases e:valV T (Sum.inr x:Key) with
 | none=>rfl
 | some v=>obtain⟨i,rfl⟩:=h _ _ e;rfl
theorem q1r.put {T:Tb} (h:q1r T) (k:Key) (i:Int):q1r (putK T k (.int i)):=by
 intro j v e
 rw[q1w]at e
 split at e
 ·cases e;exact⟨i,rfl⟩
 ·exact h j v e
theorem FV.put {F:Fb} (h:FV F) (k:List Key) {v:V} (hv:v= .str "did" ∨ v= .str "no" ∨ v= .str "undid"):FV (putK F k v):=by
 intro j u e
 rw[q1w]at e
 split at e
 ·cases e;exact hv
 ·exact h j u e
theorem FV.str {F:Fb} (h:FV F) {k:List Key} {v:V} (e:valV F k=some v):∃ y,v= .str y:=by
 rcases h k v e with z | z | z <;> exact⟨_,z⟩
structure Rq where
 word:Str
 w:Str
 st:Int
 x:Str
 n:Int
def Rq.vs (r:Rq):List V:=[.str r.word,.str r.w,.int r.st,.str r.x,.int r.n]
def kk (w:Str) (st:Int):List Key:=[Sum.inr w,Sum.inl st]
def doM (T:Tb) (F:Fb) (k:List Key) (x:Str) (n:Int):Str×Tb×Fb:=match valV F k with
 | none=>if getI T x < n then ("no",T,putK F k (.str "no")) else ("did",putK T (Sum.inr x:Key) (.int (getI T x - n)),putK F k (.str "did"))
 | some v=>(if v= .str "did" then "did" else "no",T,F)
def q3z (T:Tb) (F:Fb) (k:List Key) (x:Str) (n:Int):Str×Tb×Fb :=
 ("undid",if valV F k=some (.str "did") then putK T (Sum.inr x:Key) (.int (getI T x + n)) else T,putK F k (.str "undid"))
def q21 (T:Tb) (F:Fb) (r:Rq):Str×Tb×Fb:=if r.word= "do" then doM T F (kk r.w r.st) r.x r.n else q3z T F (kk r.w r.st) r.x r.n
structure Ok (T:Tb) (F:Fb) (n:Nat):Prop where
 i:q1r T
 f:FV F
 lt:T.length≤n
 lf:F.length≤n
theorem Ok.mono {T:Tb} {F:Fb} {n m:Nat} (h:Ok T F n) (l:n≤m):Ok T F m:=⟨h.i,h.f,Nat.le_trans h.lt l,Nat.le_trans h.lf l⟩
theorem qk9 {T:Tb} {F:Fb} {n:Nat} (h:Ok T F n) (k:List Key) (x:Str) (m:Int):Ok (doM T F k x m).2.1 (doM T F k x m).2.2 (n + 1):=by
 unfold doM
 split
 ·split
  ·exact⟨h.i,h.f.put k (.inr (.inl rfl)),by have:=h.lt;dsimp only;omega,by have:=h.lf;have:=q0o F k (V.str "no");dsimp only;omega⟩
  ·exact⟨h.i.put _ _,h.f.put k (.inl rfl),by have:=h.lt;have:=q0o T (Sum.inr x:Key) (V.int (getI T x - m));dsimp only;omega,by have:=h.lf;have:=q0o F k (V.str "did");dsimp only;omega⟩
 ·exact h.mono (Nat.le_succ _)
theorem qfa {T:Tb} {F:Fb} {n:Nat} (h:Ok T F n) (k:List Key) (x:Str) (m:Int):Ok (q3z T F k x m).2.1 (q3z T F k x m).2.2 (n + 1):=by
 unfold q3z
 dsimp only
 have lf:(putK F k (V.str "undid")).length≤n + 1:=by have:=h.lf;have:=q0o F k (V.str "undid");omega
 split
 ·exact⟨h.i.put _ _,h.f.put k (.inr (.inr rfl)),by have:=h.lt;have:=q0o T (Sum.inr x:Key) (V.int (getI T x + m));omega,lf⟩
 ·exact⟨h.i,h.f.put k (.inr (.inr rfl)),by have:=h.lt;omega,lf⟩
theorem qio {T:Tb} {F:Fb} {n:Nat} (h:Ok T F n) (r:Rq):Ok (q21 T F r).2.1 (q21 T F r).2.2 (n + 1):=by
 unfold q21
 split
 ·exact qk9 h _ _ _
 ·exact qfa h _ _ _
theorem ksf:¬ (("stock" : Str)= "fates"):=by decide +kernel
def flds (s d:Addr):List (Str×V):=putF "fates" (.ref d) (putF "stock" (.ref s) [])
theorem q3s (s d:Addr):(flds s d).lookup ("stock" : Str)=some (.ref s):=by
 unfold flds
 rw[q22,if_neg ksf,q22,if_pos rfl]
theorem q2g (s d:Addr):(flds s d).lookup ("fates" : Str)=some (.ref d):=by
 unfold flds
 rw[q22,if_pos rfl]
theorem q40 (s d:Addr) {m:Str} (h1:¬ m= "fates") (h2:¬ m= "stock"):(flds s d).lookup m=none:=by
 unfold flds
 rw[q22,if_neg h1,q22,if_neg h2]
 all_goals rfl
structure DeskAt (C:Addr) (H:Hp) (p s d:Addr) (T:Tb) (F:Fb):Prop where
 ob:∃ dx,H p=some (.ins C dx (flds s d))
 st:H s=some (.dK T)
 ft:H d=some (.dT F)
theorem DeskAt.sd {C:Addr} {H:Hp} {p s d:Addr} {T:Tb} {F:Fb} (D:DeskAt C H p s d T F):s ≠ d:=q30 D.st D.ft (by intro z;cases z)
theorem DeskAt.ps {C:Addr} {H:Hp} {p s d:Addr} {T:Tb} {F:Fb} (D:DeskAt C H p s d T F):p ≠ s:=let ⟨_,h⟩:=D.ob;q30 h D.st (by intro z;cases z)
theorem DeskAt.pd {C:Addr} {H:Hp} {p s d:Addr} {T:Tb} {F:Fb} (D:DeskAt C H p s d T F):p ≠ d:=let ⟨_,h⟩:=D.ob;q30 h D.ft (by intro z;cases z)
theorem DeskAt.keep {C:Addr} {H H':Hp} {p s d:Addr} {T:Tb} {F:Fb} {ex:List Addr} (D:DeskAt C H p s d T F) (k:Kp ex H H') (h1:p ∉ ex) (h2:s ∉ ex) (h3:d ∉ ex):DeskAt C H' p s d T F :=
 ⟨let ⟨dx,h⟩:=D.ob;⟨dx,k.get h h1⟩,k.get D.st h2,k.get D.ft h3⟩
theorem DeskAt.same {C:Addr} {H H':Hp} {p s d:Addr} {T:Tb} {F:Fb} (D:DeskAt C H p s d T F) (k:Kp [] H H'):DeskAt C H' p s d T F:=D.keep k (by simp) (by simp) (by simp)
theorem DeskAt.putS {C:Addr} {H:Hp} {p s d:Addr} {T T':Tb} {F:Fb} (D:DeskAt C H p s d T F):DeskAt C (upd H s (.dK T')) p s d T' F :=
 ⟨let ⟨dx,h⟩:=D.ob;⟨dx,by rw[q0b D.ps];exact h⟩,q03,by rw[q0b D.sd.symm];exact D.ft⟩
theorem DeskAt.putF {C:Addr} {H:Hp} {p s d:Addr} {T:Tb} {F F':Fb} (D:DeskAt C H p s d T F):DeskAt C (upd H d (.dT F')) p s d T F' :=
 ⟨let ⟨dx,h⟩:=D.ob;⟨dx,by rw[q0b D.pd];exact h⟩,by rw[q0b D.sd];exact D.st,q03⟩
def qgf (C:Addr):Sp:=fun vs H Q _=>∃ (p dx h:Addr) (T:Tb),vs=[.ref p,.ref h]∧H p=some (.ins C dx [])∧H h=some (.dK T) ∧
 ∀ (s d:Addr) (H':Hp),H s=none→H d=none→DeskAt C H' p s d T []→Kp [p] H H'→Q .non H'
def qj4 (C:Addr):Sp:=fun vs H Q _=>∃ (p s d:Addr) (T:Tb) (F:Fb) (x:Str),vs=[.ref p,.str x]∧DeskAt C H p s d T F∧q1r T∧Q (.int (getI T x)) H
def qgu (C:Addr):Sp:=fun vs H Q _=>∃ (p s d:Addr) (T:Tb) (F:Fb) (x:Str) (n:Int),vs=[.ref p,.str x,.int n]∧DeskAt C H p s d T F∧q1r T∧T.length≤900 ∧
 (getI T x < n→Q (.str "no") H)∧(¬ getI T x < n→Q (.str "did") (upd H s (.dK (putK T (Sum.inr x:Key) (.int (getI T x - n))))))
def qid (C:Addr):Sp:=fun vs H Q _=>∃ (p s d:Addr) (T:Tb) (F:Fb) (x:Str) (n:Int),vs=[.ref p,.str x,.int n]∧DeskAt C H p s d T F∧q1r T∧T.length≤900 ∧
 Q .non (upd H s (.dK (putK T (Sum.inr x:Key) (.int (getI T x + n)))))
def spOp (C:Addr) (M:Tb→Fb→List Key→Str→Int→Str×Tb×Fb):Sp:=fun vs H Q _=>∃ (p b s d:Addr) (T:Tb) (F:Fb) (k:List Key) (x:Str) (n:Int),vs=[.ref p,.ref b,.str x,.int n] ∧
 H b=some (.tup (k.map kV))∧DeskAt C H p s d T F∧Ok T F 900∧∀ H',DeskAt C H' p s d (M T F k x n).2.1 (M T F k x n).2.2→Kp [s,d] H H'→Q (.str (M T F k x n).1) H'
def qgy (C:Addr):Sp:=fun vs H Q _=>∃ (p q s d:Addr) (T:Tb) (F:Fb) (r:Rq),vs=[.ref p,.ref q]∧H q=some (.tup r.vs)∧DeskAt C H p s d T F∧Ok T F 900 ∧
 ∀ H',DeskAt C H' p s d (q21 T F r).2.1 (q21 T F r).2.2→Kp [s,d] H H'→Q (.str (q21 T F r).1) H'
structure Txt (K:PySem.W.Frag) (mg:Str→Option Value) (C:Addr):Prop where
 cl:Cls K C
 nS:q2t K C "stock"
 nF:q2t K C "fates"
section
variable {P:Program} {w:World} {K:PySem.W.Frag} {mg:Str→Option Value} {base:Heap}
theorem qit:FnScope ["self","things"] ["self","things"] (q06 qba):=⟨rfl,rfl,rfl,by decide +kernel,rfl,by decide +kernel,by decide +kernel⟩
theorem qhn {f C:Addr} {fd:FuncData} (Fn:Fun K "__init__" "Desk.__init__" qba f fd) (T:Txt K mg C) (B:Blt mg):FnOk P w K mg base CX0 1 f fd ["self","things"] (qgf C):=by
 refine Fn.ok qit (fun vs H Q E h=> ?_) (fun cdv A outer s H vs Q E hr h=> ?_)
 ·obtain⟨p,dx,h,T,rfl,_⟩:=h
  rfl
 ·obtain⟨p,dx,h,Tt,rfl,hp,hh,k⟩:=h
  refine⟨_,(q01 (q39 (pv 0) (q2b q80 rfl B.dict PyProof.Rows.boot_dict (q00 (pv 1) q05)) rfl)
   (q07 (q39 (pv 0) qfj rfl))),?_⟩
  refine⟨_,rfl,h,Tt,rfl,.inl hh,fun s hs=>⟨_,rfl,p,C,dx,[],rfl,?_,T.cl,T.nS,(by show 0 < 1000;decide),fun d hd=>⟨_,rfl,p,C,dx,L2.putF "stock" (.ref s) [],rfl,?_,T.cl,T.nF,(by show 1 < 1000;decide),?_⟩⟩⟩
  ·rw[q0b (q0d hp hs)];exact hp
  ·rw[q0b (q0d q03 hd),q03]
  ·obtain⟨ndp,hd1⟩:=q1u hd
   obtain⟨nds,hd2⟩:=q1u hd1
   have nps:p ≠ s:=q0d hp hs
   refine k s d _ hs hd2 ⟨⟨dx,q03⟩,?_,?_⟩ ?_
   ·rw[q0b nps.symm,q0b nds.symm,q0b nps.symm,q03]
   ·rw[q0b ndp,q03]
   ·intro b o e n
    have nb:b ≠ p:=fun z=>n (by simp[z])
    rw[q0b nb,q0b (q0d e hd2),q0b nb,q0b (q0d e hs)]
    exact e
theorem qkc:FnScope ["self","thing"] ["self","thing"] (q06 sHas):=⟨rfl,rfl,rfl,by decide +kernel,rfl,by decide +kernel,by decide +kernel⟩
theorem qkl {f C:Addr} {fd:FuncData} (Fn:Fun K "has" "Desk.has" sHas f fd) (T:Txt K mg C):FnOk P w K mg base CX0 1 f fd ["self","thing"] (qj4 C):=by
 refine Fn.ok qkc (fun vs H Q E h=> ?_) (fun cdv A outer s H vs Q E hr h=> ?_)
 ·obtain⟨p,s,d,T,F,x,rfl,_⟩:=h
  rfl
 ·obtain⟨p,s,d,Tt,F,x,rfl,D,hi,k⟩:=h
  have hu:=q3f hr
  obtain⟨dx,hp⟩:=D.ob
  refine⟨_,(q07 (q0a (q3q hu (q1a (pv 0) rfl) (pv 1) q02 ⟨rfl,rfl,rfl,rfl⟩))),?_⟩
  refine⟨_,rfl,p,C,dx,_,_,rfl,hp,T.cl,T.nS,q3s _ _,s,rfl,.inl ⟨_,.inl D.st⟩,_,rfl,_,DGet.k (k:=Sum.inr x) D.st,?_⟩
  rw[hi.get x]
  exact k
theorem qiq:FnScope ["self","thing","many"] ["self","thing","many"] (q06 qan):=⟨rfl,rfl,rfl,by decide +kernel,rfl,by decide +kernel,by decide +kernel⟩
theorem qie {f C:Addr} {fd:FuncData} (Fn:Fun K "take" "Desk.take" qan f fd) (T:Txt K mg C) (DDesk_has:Md P w K mg base CX0 C 1 "has" ["self","thing"] (qj4 C)):FnOk P w K mg base CX0 2 f fd ["self","thing","many"] (qgu C):=by
 refine Fn.ok qiq (fun vs H Q E h=> ?_) (fun cdv A outer s H vs Q E hr h=> ?_)
 ·obtain⟨p,s,d,T,F,x,n,rfl,_⟩:=h
  rfl
 ·obtain⟨p,s,d,Tt,F,x,n,rfl,D,hi,hl,k1,k2⟩:=h
  have hu:=q3f hr
  obtain⟨dx,hp⟩:=D.ob
  have nh:(flds s d).lookup ("has" : Str)=none:=q40 _ _ (by decide +kernel) (by decide +kernel)
  refine⟨_,(q01 (q0q (q0f q5n (q3g DDesk_has (hr.mono (by decide)) q0z (pv 0) (q00 (pv 1) q05)) (pv 2) (q0i _))
   (q07 (q0a q09))
   q0c)
   (q01 (q1e hu (q1a (pv 0) rfl) (pv 1) (q0l q4j (q3g DDesk_has (hr.mono (by decide)) q0z (pv 0) (q00 (pv 1) q05)) (pv 2)) rfl)
   (q07 (q0a q09)))),?_⟩
  refine⟨_,rfl,p,dx,_,rfl,hp,nh,_,rfl,p,s,d,Tt,F,x,rfl,D,hi,?_⟩
  refine⟨_,rfl,_,_,rfl,rfl,_,rfl,?_⟩
  refine ite2 (fun h=>k1 (of_decide_eq_true h)) (fun h=> ?_)
  have h':¬ getI Tt x < n:=fun z=>h (decide_eq_true z)
  refine⟨_,rfl,p,dx,_,rfl,hp,nh,_,rfl,p,s,d,Tt,F,x,rfl,D,hi,?_⟩
  refine⟨_,rfl,_,_,rfl,rfl,_,rfl,p,C,dx,_,_,rfl,hp,T.cl,T.nS,q3s _ _,_,rfl,s,_,rfl,DPut.k (k:=Sum.inr x) D.st (q3a (by omega)),?_⟩
  exact k2 h'
theorem qfr:FnScope ["self","key","thing","many"] ["self","key","thing","many"] (q06 q6q):=⟨rfl,rfl,rfl,by decide +kernel,rfl,by decide +kernel,by decide +kernel⟩
theorem qkm {f C:Addr} {fd:FuncData} (Fn:Fun K "do" "Desk.do" q6q f fd) (T:Txt K mg C) (DDesk_take:Md P w K mg base CX0 C 2 "take" ["self","thing","many"] (qgu C)):FnOk P w K mg base CX0 3 f fd ["self","key","thing","many"] (spOp C doM):=by
 refine Fn.ok qfr (fun vs H Q E h=> ?_) (fun cdv A outer s H vs Q E hr h=> ?_)
 ·obtain⟨p,b,s,d,T,F,k,x,n,rfl,_⟩:=h
  rfl
 ·obtain⟨p,b,s,d,Tt,F,ky,x,n,rfl,hb,D,ok,k⟩:=h
  have hu:=q3f hr
  obtain⟨dx,hp⟩:=D.ob
  have nt:(flds s d).lookup ("take" : Str)=none:=q40 _ _ (by decide +kernel) (by decide +kernel)
  have nbs:b ≠ s:=q30 hb D.st (by intro z;cases z)
  have nbd:b ≠ d:=q30 hb D.ft (by intro z;cases z)
  refine⟨_,(q01 (q0q (q3w (q5k hu (pv 1) (q1a (pv 0) rfl)))
   (q07 (q1e hu (q1a (pv 0) rfl) (pv 1) (q3g DDesk_take (hr.mono (by decide)) q0z (pv 0) (q00 (pv 2) (q00 (pv 3) q05))) rfl))
   q0c)
   (q07 (q0a (q6y (q0f q1i (q0u hu (q1a (pv 0) rfl) (pv 1) (fun _ _=>rfl)) q09 (q0i _)) q09 q09)))),?_⟩
  refine⟨_,rfl,_,rfl,p,C,dx,_,_,rfl,hp,T.cl,T.nF,q2g _ _,d,_,rfl,DGet.t (k:=ky) D.ft hb,_,rfl,?_⟩
  have last:∀ (H1:Hp) (T1:Tb) (F1:Fb) (v:V),DeskAt C H1 p s d T1 F1→H1 b=some (.tup (ky.map kV))→valV F1 ky=some v→(∃ y,v= .str y)→(Q (.str (if v= .str "did" then "did" else "no")) H1) →
    tRet (tIf (qja (tOp rEq (ql2 (tFld K (tVar 0) "fates") (tVar 1)) (tC (.str "did")))) (tC (.str "did")) (tC (.str "no"))) { nx:=fun _ H'=>Q .non H',rt:=Q } (start ["self","key","thing","many"] [.ref p,.ref b,.str x,.int n]) H1:=by
   intro H1 T1 F1 v D1 hb1 hv ⟨y,ey⟩ q
   subst ey
   obtain⟨dx1,hp1⟩:=D1.ob
   refine⟨_,rfl,p,C,dx1,_,_,rfl,hp1,T.cl,T.nF,q2g _ _,_,rfl,d,.str y,rfl,?_,rfl,_,rfl,?_⟩
   ·have:=DGet.t (k:=ky) D1.ft hb1
    rw[hv]at this
    exact this
   ·by_cases e:V.str y=V.str "did"
    ·rw[if_pos e]at q
     rw[decide_eq_true e]
     exact iteT q
    ·rw[if_neg e]at q
     rw[decide_eq_false e]
     exact iteF q
  cases e:valV F ky with
  | some v =>
   refine iteF ?_
   refine last H Tt F v D hb e (ok.f.str e) ?_
   have em:doM Tt F ky x n=((if v= .str "did" then "did" else "no" : Str),Tt,F):=by unfold doM;rw[e]
   rw[em]at k
   exact k H D (Kp.refl _ _)
  | none =>
   refine iteT ?_
   refine⟨_,rfl,p,dx,_,rfl,hp,nt,_,rfl,_,rfl,p,s,d,Tt,F,x,n,rfl,D,ok.i,ok.lt,fun hlt=> ?_,fun hlt=> ?_⟩
   ·refine⟨_,rfl,p,C,dx,_,_,rfl,hp,T.cl,T.nF,q2g _ _,_,rfl,d,_,rfl,DPut.t (k:=ky) D.ft hb (q3a (by have:=ok.lf;omega)),?_⟩
    have em:doM Tt F ky x n=(("no" : Str),Tt,putK F ky (.str "no")):=by unfold doM;rw[e];exact if_pos hlt
    rw[em]at k
    refine last _ Tt (putK F ky (.str "no")) (.str "no") D.putF (by rw[q0b nbd];exact hb) (by rw[q1w,if_pos rfl]) ⟨_,rfl⟩ ?_
    rw[if_neg (by decide +kernel)]
    exact k _ D.putF (Kp.put (by simp))
   ·have D1:=D.putS (T':=putK Tt (Sum.inr x:Key) (.int (getI Tt x - n)))
    obtain⟨dx1,hp1⟩:=D1.ob
    have hb1:(upd H s (.dK (putK Tt (Sum.inr x:Key) (.int (getI Tt x - n))))) b=some (.tup (ky.map kV)):=by rw[q0b nbs];exact hb
    refine⟨_,rfl,p,C,dx1,_,_,rfl,hp1,T.cl,T.nF,q2g _ _,_,rfl,d,_,rfl,DPut.t (k:=ky) D1.ft hb1 (q3a (by have:=ok.lf;omega)),?_⟩
    have em:doM Tt F ky x n=(("did" : Str),putK Tt (Sum.inr x:Key) (.int (getI Tt x - n)),putK F ky (.str "did")):=by unfold doM;rw[e];exact if_neg hlt
    rw[em]at k
    refine last _ _ (putK F ky (.str "did")) (.str "did") D1.putF (by rw[q0b nbd];exact hb1) (by rw[q1w,if_pos rfl]) ⟨_,rfl⟩ ?_
    rw[if_pos rfl]
    exact k _ D1.putF ((Kp.put (by simp)).trans (Kp.put (by simp)))
theorem qk2:FnScope ["self","thing","many"] ["self","thing","many"] (q06 sPut):=⟨rfl,rfl,rfl,by decide +kernel,rfl,by decide +kernel,by decide +kernel⟩
theorem qla {f C:Addr} {fd:FuncData} (Fn:Fun K "put" "Desk.put" sPut f fd) (T:Txt K mg C) (DDesk_has:Md P w K mg base CX0 C 1 "has" ["self","thing"] (qj4 C)):FnOk P w K mg base CX0 2 f fd ["self","thing","many"] (qid C):=by
 refine Fn.ok qk2 (fun vs H Q E h=> ?_) (fun cdv A outer s H vs Q E hr h=> ?_)
 ·obtain⟨p,s,d,T,F,x,n,rfl,_⟩:=h
  rfl
 ·obtain⟨p,s,d,Tt,F,x,n,rfl,D,hi,hl,k⟩:=h
  have hu:=q3f hr
  obtain⟨dx,hp⟩:=D.ob
  have nh:(flds s d).lookup ("has" : Str)=none:=q40 _ _ (by decide +kernel) (by decide +kernel)
  refine⟨_,(q07 (q1e hu (q1a (pv 0) rfl) (pv 1) (q0l q24 (q3g DDesk_has (hr.mono (by decide)) q0z (pv 0) (q00 (pv 1) q05)) (pv 2)) rfl)),?_⟩
  refine⟨_,rfl,p,dx,_,rfl,hp,nh,_,rfl,p,s,d,Tt,F,x,rfl,D,hi,?_⟩
  refine⟨_,rfl,_,_,rfl,rfl,_,rfl,p,C,dx,_,_,rfl,hp,T.cl,T.nS,q3s _ _,_,rfl,s,_,rfl,DPut.k (k:=Sum.inr x) D.st (q3a (by omega)),?_⟩
  exact k
theorem qih:FnScope ["self","key","thing","many"] ["self","key","thing","many"] (q06 qb5):=⟨rfl,rfl,rfl,by decide +kernel,rfl,by decide +kernel,by decide +kernel⟩
theorem qes {f C:Addr} {fd:FuncData} (Fn:Fun K "undo" "Desk.undo" qb5 f fd) (T:Txt K mg C) (DDesk_put:Md P w K mg base CX0 C 2 "put" ["self","thing","many"] (qid C)):FnOk P w K mg base CX0 3 f fd ["self","key","thing","many"] (spOp C q3z):=by
 refine Fn.ok qih (fun vs H Q E h=> ?_) (fun cdv A outer s H vs Q E hr h=> ?_)
 ·obtain⟨p,b,s,d,T,F,k,x,n,rfl,_⟩:=h
  rfl
 ·obtain⟨p,b,s,d,Tt,F,ky,x,n,rfl,hb,D,ok,k⟩:=h
  have hu:=q3f hr
  obtain⟨dx,hp⟩:=D.ob
  have nh:(flds s d).lookup ("put" : Str)=none:=q40 _ _ (by decide +kernel) (by decide +kernel)
  have nbs:b ≠ s:=q30 hb D.st (by intro z;cases z)
  have nbd:b ≠ d:=q30 hb D.ft (by intro z;cases z)
  refine⟨_,(q01 (q0q (q0f q1i (qel hu (q1a (pv 0) rfl) (pv 1) ⟨rfl,rfl,rfl,rfl⟩) q09 (q0i _))
   (q07 (q2a (q3g DDesk_put (hr.mono (by decide)) q0z (pv 0) (q00 (pv 2) (q00 (pv 3) q05)))))
   q0c)
   (q01 (q1e hu (q1a (pv 0) rfl) (pv 1) q09 rfl)
   (q07 (q0a q09)))),?_⟩
  have sc:scal ((valV F ky).getD .non) (.str "did")=true:=by
   cases e:valV F ky with
   | none=>rfl
   | some v=>obtain⟨y,rfl⟩:=ok.f.str e;rfl
  refine⟨_,rfl,p,C,dx,_,_,rfl,hp,T.cl,T.nF,q2g _ _,d,rfl,.inr ⟨_,.inl D.ft⟩,_,rfl,_,DGet.t (k:=ky) D.ft hb,sc,_,rfl,?_⟩
  have tail:∀ (H1:Hp) (T1:Tb),DeskAt C H1 p s d T1 F→H1 b=some (.tup (ky.map kV))→(∀ H',DeskAt C H' p s d T1 (putK F ky (.str "undid"))→Kp [s,d] H1 H'→Q (.str "undid") H') →
    tSeq (qi0 (tFld K (tVar 0) "fates") (tVar 1) (tC (.str "undid"))) (tRet (tC (.str "undid"))) { nx:=fun _ H'=>Q .non H',rt:=Q } (start ["self","key","thing","many"] [.ref p,.ref b,.str x,.int n]) H1:=by
   intro H1 T1 D1 hb1 q
   obtain⟨dx1,hp1⟩:=D1.ob
   refine⟨_,rfl,p,C,dx1,_,_,rfl,hp1,T.cl,T.nF,q2g _ _,_,rfl,d,_,rfl,DPut.t (k:=ky) D1.ft hb1 (q3a (by have:=ok.lf;omega)),?_⟩
   exact q _ D1.putF (Kp.put (by simp))
  by_cases e:valV F ky=some (.str "did")
  ·have em:q3z Tt F ky x n=(("undid" : Str),putK Tt (Sum.inr x:Key) (.int (getI Tt x + n)),putK F ky (.str "undid")):=by unfold q3z;rw[if_pos e]
   rw[em]at k
   rw[e]
   refine iteT ?_
   refine⟨_,rfl,p,dx,_,rfl,hp,nh,_,rfl,_,rfl,p,s,d,Tt,F,x,n,rfl,D,ok.i,ok.lt,?_⟩
   exact tail _ _ D.putS (by rw[q0b nbs];exact hb) fun H' D' kp=>k H' D' ((Kp.put (by simp)).trans kp)
  ·have em:q3z Tt F ky x n=(("undid" : Str),Tt,putK F ky (.str "undid")):=by unfold q3z;rw[if_neg e]
   rw[em]at k
   have en:decide ((valV F ky).getD .non= .str "did")=false:=by
    refine decide_eq_false fun z=>e ?_
    cases q:valV F ky with
    | none=>rw[q]at z;cases z
    | some v=>rw[q]at z;rw[show v=V.str "did" from z]
   rw[en]
   refine iteF ?_
   exact tail H Tt D hb k
theorem qeb:FnScope ["self","request","key"] ["self","request"] (q06 qb3):=⟨rfl,rfl,rfl,by decide +kernel,rfl,by decide +kernel,by decide +kernel⟩
theorem qho {f C:Addr} {fd:FuncData} (Fn:Fun K "told" "Desk.told" qb3 f fd) (T:Txt K mg C) (DDesk_do:Md P w K mg base CX0 C 3 "do" ["self","key","thing","many"] (spOp C doM)) (DDesk_undo:Md P w K mg base CX0 C 3 "undo" ["self","key","thing","many"] (spOp C q3z)) :
  FnOk P w K mg base CX0 4 f fd ["self","request"] (qgy C):=by
 refine Fn.ok qeb (fun vs H Q E h=> ?_) (fun cdv A outer s H vs Q E hr h=> ?_)
 ·obtain⟨p,q,s,d,T,F,r,rfl,_⟩:=h
  rfl
 ·obtain⟨p,q,s,d,Tt,F,r,rfl,hq,D,ok,k⟩:=h
  have hu:=q3f hr
  have nd:=qeb.nd
  obtain⟨dx,hp⟩:=D.ob
  have nm:∀ m:Str,¬ m= "fates" → ¬ m= "stock" → (flds s d).lookup m=none:=fun m h1 h2=>q40 _ _ h1 h2
  refine⟨_,(q01 (q0s (i:=2) nd rfl (Or.inl rfl) (q19 (q00 (q0k q0h (pv 1) q02 (fun _ _=>rfl)) (q00 (q0k q0h (pv 1) q02 (fun _ _=>rfl)) q05))))
   (q01 (q0q (q0f q1i (q0k q0h (pv 1) q02 (fun _ _=>rfl)) q09 (q0i _))
   (q07 (q0a (q3g DDesk_do (hr.mono (by decide)) q0z (pv 0) (q00 (pv 2) (q00 (q0k q0h (pv 1) q02 (fun _ _=>rfl)) (q00 (q0k q0h (pv 1) q02 (fun _ _=>rfl)) q05))))))
   q0c)
   (q07 (q0a (q3g DDesk_undo (hr.mono (by decide)) q0z (pv 0) (q00 (pv 2) (q00 (q0k q0h (pv 1) q02 (fun _ _=>rfl)) (q00 (q0k q0h (pv 1) q02 (fun _ _=>rfl)) q05)))))))),?_⟩
  refine⟨_,rfl,q,_,_,_,rfl,rfl,SqT.of hq,q08 (j:=1) rfl,_,rfl,q,_,_,_,rfl,rfl,SqT.of hq,q08 (j:=2) rfl,(by show 2≤sizeLine;decide),fun b hb=> ?_⟩
  have hq1:(upd H b (.tup [V.str r.w,V.int r.st])) q=some (.tup r.vs):=by rw[q0b (q0d hq hb)];exact hq
  have kp:Kp [s,d] H (upd H b (.tup [V.str r.w,V.int r.st])):=Kp.new hb
  have D1:=D.same (Kp.new (o:= .tup [V.str r.w,V.int r.st]) hb)
  have hp1:(upd H b (.tup [V.str r.w,V.int r.st])) p=some (.ins C dx (flds s d)):=by rw[q0b (q0d hp hb)];exact hp
  refine⟨_,rfl,q,_,_,_,rfl,rfl,SqT.of hq1,q08 (j:=0) rfl,rfl,_,rfl,?_⟩
  refine ite2 (fun h=> ?_) (fun h=> ?_)
  ·have hw:r.word= "do" := by have:=of_decide_eq_true h;injection this
   refine⟨_,rfl,p,dx,_,rfl,hp1,nm _ (by decide +kernel) (by decide +kernel),_,rfl,_,rfl,q,_,_,_,rfl,rfl,SqT.of hq1,q08 (j:=3) rfl,_,rfl,q,_,_,_,rfl,rfl,SqT.of hq1,q08 (j:=4) rfl,
    p,b,s,d,Tt,F,kk r.w r.st,r.x,r.n,rfl,q03,D1,ok,fun H' D' kp'=> ?_⟩
   have em:q21 Tt F r=doM Tt F (kk r.w r.st) r.x r.n:=by unfold q21;rw[if_pos hw]
   rw[em]at k
   exact k H' D' (kp.trans kp')
  ·have hw:¬ r.word= "do" := fun z=>h (decide_eq_true (by rw[z]))
   refine⟨_,rfl,p,dx,_,rfl,hp1,nm _ (by decide +kernel) (by decide +kernel),_,rfl,_,rfl,q,_,_,_,rfl,rfl,SqT.of hq1,q08 (j:=3) rfl,_,rfl,q,_,_,_,rfl,rfl,SqT.of hq1,q08 (j:=4) rfl,
    p,b,s,d,Tt,F,kk r.w r.st,r.x,r.n,rfl,q03,D1,ok,fun H' D' kp'=> ?_⟩
   have em:q21 Tt F r=q3z Tt F (kk r.w r.st) r.x r.n:=by unfold q21;rw[if_neg hw]
   rw[em]at k
   exact k H' D' (kp.trans kp')
end
end K07
end
section
namespace K07
open PySem L2
structure Stp where
 d:Int
 x:Str
 n:Int
def Stp.vs (s:Stp):List V:=[.int s.d,.str s.x,.int s.n]
structure Rn where
 desks:List (Tb×Fb)
 bound:Int
 up:Bool
 works:List (Str×List Stp)
 trail:Str→List En
 tries:Tb
 lost:List (Int×Rq)
def wkF {α:Type} (ws:List (Str×α)) (x:Str):Option α:=(ws.find? fun w=>decide (w.1=x)).map (·.2)
def Rn.wk (R:Rn) (x:Str):Option (List Stp):=wkF R.works x
def wkT (ws:List (Str×List Stp)) (f:Str→Addr):List (Key×V):=ws.map fun w=>((Sum.inr w.1:Key),V.ref (f w.1))
theorem q2p (ws:List (Str×List Stp)) (f:Str→Addr) (x:Str):valV (wkT ws f) (Sum.inr x:Key)=(wkF ws x).map fun _=>V.ref (f x):=by
 induction ws with
 | nil=>rfl
 | cons w ws ih =>
  unfold valV wkT wkF at ih ⊢
  simp only[List.map_cons,List.find?_cons]
  by_cases h:w.1=x
  ·subst h
   simp
  ·have h':¬ ((Sum.inr w.1:Key)=Sum.inr x):=fun z=>h (by injection z)
   rw[decide_eq_false h,decide_eq_false h']
   exact ih
theorem q2q {α:Type} {ws:List (Str×α)} {x:Str} {ss:α} (h:wkF ws x=some ss):(x,ss) ∈ ws:=by
 unfold wkF at h
 cases e:ws.find? fun w=>decide (w.1=x) with
 | none=>rw[e]at h;cases h
 | some w =>
  rw[e]at h
  have h1:=List.find?_some e
  have h2:=List.mem_of_find?_eq_some e
  obtain⟨y,s⟩:=w
  obtain rfl:s=ss:=Option.some.inj h
  obtain rfl:y=x:=of_decide_eq_true h1
  exact h2
theorem q2x {α:Type} {ws:List (Str×α)} {x:Str} (h:wkF ws x=none):∀ w ∈ ws,w.1 ≠ x:=fun w hw e=>by
 unfold wkF at h
 rw[Option.map_eq_none_iff,List.find?_eq_none]at h
 exact h w hw (decide_eq_true e)
inductive Tg where
 | no | run | dl | desk | works | trails | tries | lost
 | stock (i:Nat) | fates (i:Nat) | wk (x:Str) | trail (x:Str)
 deriving DecidableEq
structure Stps (H:Hp) (as:List Addr) (ss:List Stp):Prop where
 len:as.length=ss.length
 at_:∀ (i:Nat) a s,as[i]? = some a→ss[i]? = some s→H a=some (.tup s.vs)
def LoAt (H:Hp) (a:Addr) (q:Int×Rq):Prop:=∃ b,H a=some (.tup [.int q.1,.ref b])∧H b=some (.tup q.2.vs)
structure Losts (H:Hp) (as:List Addr) (qs:List (Int×Rq)):Prop where
 len:as.length=qs.length
 at_:∀ (i:Nat) a q,as[i]? = some a→qs[i]? = some q→LoAt H a q
def TK (H H':Hp):Prop:=∀ b xs,H b=some (.tup xs)→H' b=some (.tup xs)
theorem TK.refl (H:Hp):TK H H:=fun _ _ h=>h
theorem TK.trans {H H1 H2:Hp} (a:TK H H1) (b:TK H1 H2):TK H H2:=fun c xs h=>b c xs (a c xs h)
theorem Stps.tk {H H':Hp} {as:List Addr} {ss:List Stp} (h:Stps H as ss) (k:TK H H'):Stps H' as ss:=⟨h.len,fun i a s e1 e2=>k _ _ (h.at_ i a s e1 e2)⟩
theorem Losts.tk {H H':Hp} {as:List Addr} {ss:List (Int×Rq)} (h:Losts H as ss) (k:TK H H'):Losts H' as ss:=⟨h.len,fun i a s e1 e2=>let ⟨b,h1,h2⟩:=h.at_ i a s e1 e2;⟨b,k _ _ h1,k _ _ h2⟩⟩
theorem Ents.tk {H H':Hp} {as:List Addr} {t:List En} (h:Ents H as t) (k:TK H H'):Ents H' as t:=⟨h.len,fun i a e e1 e2=>k _ _ (h.at_ i a e e1 e2)⟩
theorem Kp.tk {H H':Hp} {xs:List Addr} (k:Kp xs H H') (h:∀ a ∈ xs,∀ ys,H a ≠ some (.tup ys)):TK H H':=fun b ys e=>k.get e fun z=>h b z ys e
theorem Losts.snoc {H:Hp} {as:List Addr} {qs:List (Int×Rq)} {a:Addr} {q:Int×Rq} (h:Losts H as qs) (hq:LoAt H a q):Losts H (as ++ [a]) (qs ++ [q]):=by
 refine⟨by simp[h.len],fun i b q' ea er=> ?_⟩
 by_cases hi:i < as.length
 ·rw[List.getElem?_append_left hi]at ea
  rw[List.getElem?_append_left (by rw[← h.len];exact hi)]at er
  exact h.at_ i b q' ea er
 ·have e1:i=as.length:=by
   have:=(List.getElem?_eq_some_iff.mp ea).1
   simp at this
   omega
  subst e1
  rw[List.getElem?_append_right (Nat.le_refl _)]at ea
  rw[h.len,List.getElem?_append_right (Nat.le_refl _)]at er
  simp at ea er
  subst ea er
  exact hq
theorem Stps.get {H:Hp} {as:List Addr} {ss:List Stp} (h:Stps H as ss) {i:Nat} {s:Stp} (e:ss[i]? = some s):∃ a,as[i]? = some a∧H a=some (.tup s.vs):=by
 have hi:i < as.length:=by rw[h.len];exact(List.getElem?_eq_some_iff.mp e).1
 exact⟨as[i],List.getElem?_eq_getElem hi,h.at_ i _ s (List.getElem?_eq_getElem hi) e⟩
def q2k (dl:Addr) (b:Int) (u:Bool) (wd td tr lo:Addr):List (Str×V) :=
 putF "lost" (.ref lo) (putF "tries" (.ref tr) (putF "trails" (.ref td) (putF "works" (.ref wd) (putF "up" (.bl u) (putF "bound" (.int b) (putF "desks" (.ref dl) []))))))
section
variable (dl:Addr) (b:Int) (u:Bool) (wd td tr lo:Addr)
theorem fR:q2k dl b u wd td tr lo=([("desks",.ref dl),("bound",.int b),("up",.bl u),("works",.ref wd),("trails",.ref td),("tries",.ref tr),("lost",.ref lo)]:List (Str×V)):=by
 unfold q2k;with_unfolding_all rfl
theorem q55:(q2k dl b u wd td tr lo).lookup ("desks" : Str)=some (.ref dl):=by rw[fR];rfl
theorem qfm:(q2k dl b u wd td tr lo).lookup ("bound" : Str)=some (.int b):=by rw[fR];rfl
theorem qig:(q2k dl b u wd td tr lo).lookup ("up" : Str)=some (.bl u):=by rw[fR];rfl
theorem q49:(q2k dl b u wd td tr lo).lookup ("works" : Str)=some (.ref wd):=by rw[fR];rfl
theorem q4b:(q2k dl b u wd td tr lo).lookup ("trails" : Str)=some (.ref td):=by rw[fR];rfl
theorem q57:(q2k dl b u wd td tr lo).lookup ("tries" : Str)=some (.ref tr):=by rw[fR];rfl
theorem q6z:(q2k dl b u wd td tr lo).lookup ("lost" : Str)=some (.ref lo):=by rw[fR];rfl
theorem q9u (u':Bool):putF "up" (.bl u') (q2k dl b u wd td tr lo)=q2k dl b u' wd td tr lo:=by rw[fR,fR];rfl
theorem q90 (tr':Addr):putF "tries" (.ref tr') (q2k dl b u wd td tr lo)=q2k dl b u wd td tr' lo:=by rw[fR,fR];rfl
end
structure RnP (C Cd:Addr) (ex:Tg→Bool) (H0 H:Hp) (r:Addr) (R:Rn) (tg:Addr→Tg) (dl wd td tr lo:Addr) (ps:List Addr) (wa ta:Str→Addr):Prop where
 kp:Kp [] H0 H
 fr:∀ b o,H0 b=some o→tg b= .no
 tr_:tg r= .run
 ob:ex .run=false→∃ dx,H r=some (.ins C dx (q2k dl R.bound R.up wd td tr lo))
 tdl:tg dl= .dl
 hdl:ex .dl=false→H dl=some (.lst (ps.map V.ref))
 len:ps.length=R.desks.length
 dk:∀ (i:Nat) p T F,ps[i]? = some p→R.desks[i]? = some (T,F)→ex (.stock i)=false→ex (.fates i)=false→ex .desk=false→tg p= .desk∧∃ s d,DeskAt Cd H p s d T F∧tg s= .stock i∧tg d= .fates i
 twd:tg wd= .works
 hwd:ex .works=false→H wd=some (.dK (wkT R.works wa))
 wk:∀ x ss,(x,ss) ∈ R.works→ex (.wk x)=false→tg (wa x)= .wk x∧∃ as,H (wa x)=some (.lst (as.map V.ref))∧Stps H as ss
 ttd:tg td= .trails
 htd:ex .trails=false→H td=some (.dK (wkT R.works ta))
 tl:∀ x ss,(x,ss) ∈ R.works→ex (.trail x)=false→tg (ta x)= .trail x∧∃ as,H (ta x)=some (.lst (as.map V.ref))∧Ents H as (R.trail x)
 ttr:tg tr= .tries
 htr:ex .tries=false→H tr=some (.dK R.tries)
 tlo:tg lo= .lost
 hlo:ex .lost=false→∃ as,H lo=some (.lst (as.map V.ref))∧Losts H as R.lost
abbrev exN:Tg→Bool:=fun _=>false
section
variable {C Cd r dl wd td tr lo:Addr} {ex:Tg→Bool} {H0 H H':Hp} {R:Rn} {tg:Addr→Tg} {ps:List Addr} {wa ta:Str→Addr}
theorem RnP.step (I:RnP C Cd exN H0 H r R tg dl wd td tr lo ps wa ta) {xs:List Addr} (k:Kp xs H H') (hx:∀ a ∈ xs,ex (tg a)=true∧tg a ≠ .no∧∀ ys,H a ≠ some (.tup ys)):RnP C Cd ex H0 H' r R tg dl wd td tr lo ps wa ta:=by
 have ne:∀ {b:Addr} {o:HO} {t:Tg},tg b=t→ex t=false→H b=some o→H' b=some o:=fun {b o t} e f h=>k.get h fun z=>by
  have:=(hx b z).1
  rw[e,f]at this
  cases this
 have tk:TK H H':=Kp.tk k fun a ha=>(hx a ha).2.2
 refine⟨fun b o h _=>k.get (I.kp.get h nEm) fun z=>(hx b z).2.1 (I.fr b o h),I.fr,I.tr_,fun f=> ?_,I.tdl,fun f=>ne I.tdl f (I.hdl rfl),I.len,fun i p T F e1 e2 f1 f2 f3=> ?_,I.twd,fun f=>ne I.twd f (I.hwd rfl),fun x ss hm f=> ?_,I.ttd,fun f=>ne I.ttd f (I.htd rfl),fun x ss hm f=> ?_,I.ttr,
  fun f=>ne I.ttr f (I.htr rfl),I.tlo,fun f=> ?_⟩
 ·obtain⟨dx,h⟩:=I.ob rfl
  exact⟨dx,ne I.tr_ f h⟩
 ·obtain⟨tp,s,d,D,ts,td'⟩:=I.dk i p T F e1 e2 rfl rfl rfl
  obtain⟨dx,h⟩:=D.ob
  exact⟨tp,s,d,⟨⟨dx,ne tp f3 h⟩,ne ts f1 D.st,ne td' f2 D.ft⟩,ts,td'⟩
 ·obtain⟨t,as,h,S⟩:=I.wk x ss hm rfl
  exact⟨t,as,ne t f h,S.tk tk⟩
 ·obtain⟨t,as,h,S⟩:=I.tl x ss hm rfl
  exact⟨t,as,ne t f h,S.tk tk⟩
 ·obtain⟨as,h,S⟩:=I.hlo rfl
  exact⟨as,ne I.tlo f h,S.tk tk⟩
end
structure RnOk (R:Rn) (n:Nat):Prop where
 ok:∀ T F,(T,F) ∈ R.desks→Ok T F n
 nod:(R.works.map (·.1)).Nodup
 sw:R.works.length≤n
 sl:R.lost.length≤n
 st:∀ x,(R.trail x).length≤n
 ss:∀ x ss,(x,ss) ∈ R.works→ss.length≤1000
 it:q1r R.tries
 lt:R.tries.length≤n
 sd:∀ x ss,(x,ss) ∈ R.works→∀ s ∈ ss,0≤s.d∧s.d < R.desks.length
 ld:∀ q ∈ R.lost,0≤q.1∧q.1 < R.desks.length
 en:∀ x ss,(x,ss) ∈ R.works→∀ e ∈ R.trail x,0≤e.2∧e.2 < ss.length
structure RnAt (C Cd:Addr) (H0 H:Hp) (r:Addr) (R:Rn) (n:Nat):Prop where
 ok:RnOk R n
 ex:∃ (tg:Addr→Tg) (dl wd td tr lo:Addr) (ps:List Addr) (wa ta:Str→Addr),RnP C Cd exN H0 H r R tg dl wd td tr lo ps wa ta
def setD (R:Rn) (i:Nat) (p:Tb×Fb):Rn:={ R with desks:=R.desks.set i p }
def q0r (R:Rn) (d:Int) (q:Rq):Str×Rn:=match R.desks[d.toNat]? with
 | some (T,F)=>((q21 T F q).1,setD R d.toNat (q21 T F q).2)
 | none=>("",R)
def q1d (R:Rn) (d:Int) (q:Rq) (luck:Str):Option Str×Rn :=
 if luck= "lost" then (none,{ R with lost:=R.lost ++ [(d,q)] }) else (if luck= "ok" then some (q0r R d q).1 else none,(q0r R d q).2)
def q15 (R:Rn) (x:Str) (undo:Bool):Option Str×Rn :=
 if undo=true then (none,R) else (if R.bound≤getI R.tries x + 1 then some "unsure" else none,{ R with tries:=putK R.tries (Sum.inr x:Key) (.int (getI R.tries x + 1)) })
def q1x (R:Rn) (x:Str) (e:En):Rn:={ R with tries:=putK R.tries (Sum.inr x:Key) (.int 0),trail:=fun y=>if y=x then R.trail x ++ [e] else R.trail y }
def reqM (x:Str) (s:Stp) (word:Str) (i:Int):Rq:=⟨word,x,i,s.x,s.n⟩
def q0w (R:Rn) (x:Str) (s:Stp) (undo:Bool) (i:Int) (luck:Str):Option En×Rn :=
 match q1d R s.d (reqM x s (if undo=true then "undo" else "do") i) luck with
 | (some w,R1)=>(some (w,i),q1x R1 x (w,i))
 | (none,R1)=>match q15 R1 x undo with
  | (some w,R2)=>(some (w,i),q1x R2 x (w,i))
  | (none,R2)=>(none,R2)
inductive An where
 | non | bl (b:Bool) | str (s:Str) | en (e:En)
 deriving DecidableEq
inductive Deed where
 | start (x:Str) (ss:List Stp) | go (x luck:Str) | late (i:Int) | fill (d:Int) (x:Str) (n:Int) | stop | wake
def optA:Option En→An
 | some e=> .en e
 | none=> .non
def goM (R:Rn) (x luck:Str):An×Rn:=if R.up=false then (.str "stopped",R) else match R.wk x with
 | none=>(.str "no work",R)
 | some ss=>match nxOf ss.length (R.trail x) with
  | .dO i=>match ss[i.toNat]? with
   | some s=>(optA (q0w R x s false i luck).1,(q0w R x s false i luck).2)
   | none=>(.non,R)
  | .un i=>match ss[i.toNat]? with
   | some s=>(optA (q0w R x s true i luck).1,(q0w R x s true i luck).2)
   | none=>(.non,R)
  | _=>(.str "ended",R)
def inD (R:Rn) (d:Int):Bool:=decide (0≤d) && decide (d < R.desks.length)
def q2m (R:Rn) (x:Str) (ss:List Stp):An×Rn:=if (ss.all fun s=>inD R s.d)=true then (match R.wk x with
  | some _=>(.bl false,R)
  | none=>(.bl true,{ R with works:=R.works ++ [(x,ss)],trail:=fun y=>if y=x then [] else R.trail y }))
 else (.str "no desk",R)
def q28 (R:Rn) (d:Int) (x:Str) (n:Int):An×Rn:=if inD R d=true then (match R.desks[d.toNat]? with
  | some (T,F)=>(.bl true,setD R d.toNat (putK T (Sum.inr x:Key) (.int (getI T x + n)),F))
  | none=>(.bl true,R))
 else (.str "no desk",R)
def q2l (R:Rn) (i:Int):An×Rn:=if i < 0 then (.non,R) else match R.lost[i.toNat]? with
 | some (d,q)=>(.str (q0r R d q).1,(q0r R d q).2)
 | none=>(.non,R)
def q1j (R:Rn):Deed→An×Rn
 | .start x ss=>q2m R x ss
 | .go x luck=>goM R x luck
 | .late i=>q2l R i
 | .fill d x n=>q28 R d x n
 | .stop=>if R.up=true then (.bl true,{ R with up:=false,tries:=[] }) else (.bl false,R)
 | .wake=>if R.up=true then (.bl false,R) else (.bl true,{ R with up:=true })
def runD (R:Rn) (ds:List Deed):List An×Rn:=ds.foldl (fun acc d=>(acc.1 ++ [(q1j acc.2 d).1],(q1j acc.2 d).2)) ([],R)
def newR (stocks:List Tb) (bound:Int):Rn:=⟨stocks.map fun T=>(T,[]),bound,true,[],fun _=>[],[],[]⟩
end K07
end
section
namespace K07
open PySem L2
theorem RnOk.mono {R:Rn} {n m:Nat} (h:RnOk R n) (l:n≤m):RnOk R m :=
 ⟨fun T F z=>(h.ok T F z).mono l,h.nod,Nat.le_trans h.sw l,Nat.le_trans h.sl l,fun x=>Nat.le_trans (h.st x) l,h.ss,h.it,Nat.le_trans h.lt l,h.sd,h.ld,h.en⟩
theorem qiz {α:Type} {l:List α} {i:Nat} {a x:α} (h:x ∈ l.set i a):x=a∨x ∈ l:=by
 rcases List.mem_or_eq_of_mem_set h with z | z
 ·exact .inr z
 ·exact .inl z
theorem RnOk.setD {R:Rn} {n:Nat} {i:Nat} {T:Tb} {F:Fb} (h:RnOk R n) (o:Ok T F (n + 1)):RnOk (setD R i (T,F)) (n + 1):=by
 have h':=h.mono (Nat.le_succ n)
 have el:(K07.setD R i (T,F)).desks.length=R.desks.length:=by unfold K07.setD;exact List.length_set
 refine⟨fun T' F' z=> ?_,h'.nod,h'.sw,h'.sl,h'.st,h'.ss,h'.it,h'.lt,fun x ss z s hs=> ?_,fun q hq=> ?_,h'.en⟩
 ·rcases qiz z with e | e
  ·cases e;exact o
  ·exact h'.ok T' F' e
 ·rw[el];exact h'.sd x ss z s hs
 ·rw[el];exact h'.ld q hq
theorem RnOk.arrive {R:Rn} {n:Nat} {d:Int} {q:Rq} (h:RnOk R n):RnOk (q0r R d q).2 (n + 1):=by
 unfold q0r
 split
 ·rename_i T F e
  exact h.setD (qio (h.ok T F (List.mem_of_getElem? e)) q)
 ·exact h.mono (Nat.le_succ n)
theorem RnOk.setTries {R:Rn} {n:Nat} {x:Str} {i:Int} (h:RnOk R n):RnOk { R with tries:=putK R.tries (Sum.inr x:Key) (.int i) } (n + 1):=by
 have h':=h.mono (Nat.le_succ n)
 refine⟨h'.ok,h'.nod,h'.sw,h'.sl,h'.st,h'.ss,h.it.put _ _,?_,h'.sd,h'.ld,h'.en⟩
 have:=q0o R.tries (Sum.inr x:Key) (V.int i)
 have:=h.lt
 dsimp only
 omega
theorem RnOk.addLost {R:Rn} {n:Nat} {d:Int} {q:Rq} (h:RnOk R n) (h0:0≤d) (h1:d < R.desks.length):RnOk { R with lost:=R.lost ++ [(d,q)] } (n + 1):=by
 have h':=h.mono (Nat.le_succ n)
 refine⟨h'.ok,h'.nod,h'.sw,by have:=h.sl;simp;omega,h'.st,h'.ss,h'.it,h'.lt,h'.sd,fun z hz=> ?_,h'.en⟩
 rcases List.mem_append.mp hz with e | e
 ·exact h'.ld z e
 ·rw[List.mem_singleton.mp e];exact⟨h0,h1⟩
theorem RnOk.addTrail {R:Rn} {n:Nat} {x:Str} {e:En} (h:RnOk R n) (he:∀ ss,(x,ss) ∈ R.works→0≤e.2∧e.2 < ss.length):RnOk { R with trail:=fun y=>if y=x then R.trail x ++ [e] else R.trail y } (n + 1):=by
 have h':=h.mono (Nat.le_succ n)
 refine⟨h'.ok,h'.nod,h'.sw,h'.sl,fun y=> ?_,h'.ss,h'.it,h'.lt,h'.sd,h'.ld,fun y ss hm z hz=> ?_⟩
 ·dsimp only
  split
  ·have:=h.st x
   simp;omega
  ·exact h'.st y
 ·dsimp only at hz
  split at hz
  ·rename_i ey
   subst ey
   rcases List.mem_append.mp hz with q | q
   ·exact h.en _ ss hm z q
   ·rw[List.mem_singleton.mp q];exact he ss hm
  ·exact h.en y ss hm z hz
theorem RnOk.written {R:Rn} {n:Nat} {x:Str} {e:En} (h:RnOk R n) (he:∀ ss,(x,ss) ∈ R.works→0≤e.2∧e.2 < ss.length):RnOk (q1x R x e) (n + 2):=by
 have:=(h.setTries (x:=x) (i:=0)).addTrail (x:=x) (e:=e) he
 exact this
theorem q16 (R:Rn) (d:Int) (q:Rq):(q0r R d q).2.works=R.works∧(q0r R d q).2.trail=R.trail∧(q0r R d q).2.desks.length=R.desks.length∧(q0r R d q).2.tries=R.tries∧(q0r R d q).2.bound=R.bound∧(q0r R d q).2.up=R.up∧(q0r R d q).2.lost=R.lost:=by
 unfold q0r
 split
 ·exact⟨rfl,rfl,List.length_set,rfl,rfl,rfl,rfl⟩
 ·exact⟨rfl,rfl,rfl,rfl,rfl,rfl,rfl⟩
theorem RnOk.start {R:Rn} {n:Nat} {x:Str} {ss:List Stp} (h:RnOk R n) (hn:R.wk x=none) (hs:ss.length≤1000) (hd:∀ s ∈ ss,0≤s.d∧s.d < R.desks.length) :
  RnOk { R with works:=R.works ++ [(x,ss)],trail:=fun y=>if y=x then [] else R.trail y } (n + 1):=by
 have h':=h.mono (Nat.le_succ n)
 have nx:∀ y ss',(y,ss') ∈ R.works→y ≠ x:=fun y ss' hm=>q2x hn (y,ss') hm
 have cs:∀ {y ss'},(y,ss') ∈ R.works ++ [(x,ss)]→(y,ss') ∈ R.works∨(y=x∧ss'=ss):=fun {y ss'} hm=>by
  rcases List.mem_append.mp hm with q | q
  ·exact .inl q
  ·have:=List.mem_singleton.mp q
   cases this
   exact .inr ⟨rfl,rfl⟩
 refine⟨h'.ok,?_,by have:=h.sw;simp;omega,h'.sl,fun y=> ?_,fun y ss' hm=> ?_,h'.it,h'.lt,fun y ss' hm s hs=> ?_,h'.ld,fun y ss' hm e he=> ?_⟩
 ·show ((R.works ++ [(x,ss)]).map (·.1)).Nodup
  rw[List.map_append,List.nodup_append]
  refine⟨h.nod,by simp,fun a ha b hb e=> ?_⟩
  obtain⟨⟨y,ss'⟩,hm,rfl⟩:=List.mem_map.mp ha
  simp at hb
  exact nx y ss' hm (e.trans hb)
 ·dsimp only
  split
  ·exact Nat.zero_le _
  ·exact h'.st y
 ·rcases cs hm with q | ⟨_,q⟩
  ·exact h'.ss y ss' q
  ·rw[q];exact hs
 ·rcases cs hm with q | ⟨_,q⟩
  ·exact h'.sd y ss' q s hs
  ·rw[q]at hs;exact hd s hs
 ·dsimp only at he
  rcases cs hm with q | ⟨q,_⟩
  ·rw[if_neg (nx y ss' q)]at he
   exact h'.en y ss' q e he
  ·rw[if_pos q]at he
   cases he
theorem RnOk.calm {R:Rn} {n:Nat} (h:RnOk R n) (u:Bool) (T:Tb) (hT:q1r T) (hl:T.length≤n):RnOk { R with up:=u,tries:=T } n :=
 ⟨h.ok,h.nod,h.sw,h.sl,h.st,h.ss,hT,hl,h.sd,h.ld,h.en⟩
theorem RnOk.next {R:Rn} {n:Nat} {x:Str} {ss:List Stp} (h:RnOk R n) (hm:(x,ss) ∈ R.works) {i:Int} (e:nxOf ss.length (R.trail x)= .dO i∨nxOf ss.length (R.trail x)= .un i):0≤i∧i < ss.length:=by
 unfold nxOf at e
 cases q:(R.trail x).getLast? with
 | none =>
  rw[q]at e
  dsimp only at e
  unfold doD at e
  split at e
  ·rcases e with e | e
   ·cases e;omega
   ·cases e
  ·rcases e with e | e <;> cases e
 | some z =>
  rw[q]at e
  dsimp only at e
  have hz:=h.en x ss hm z (List.mem_of_getLast? q)
  unfold nb doD unD at e
  split at e
  ·split at e
   ·rcases e with e | e
    ·cases e;omega
    ·cases e
   ·rcases e with e | e <;> cases e
  ·split at e
   ·split at e
    ·rcases e with e | e
     ·cases e
     ·cases e;omega
    ·rcases e with e | e <;> cases e
   ·split at e
    ·rcases e with e | e
     ·cases e
     ·cases e;omega
    ·rcases e with e | e <;> cases e
section
variable {C Cd r:Addr} {H0 H0' H H':Hp} {R:Rn} {n:Nat}
theorem RnAt.kp (I:RnAt C Cd H0 H r R n):Kp [] H0 H:=let ⟨_,_,_,_,_,_,_,_,_,P⟩:=I.ex;P.kp
theorem RnAt.mono {m:Nat} (I:RnAt C Cd H0 H r R n) (h:n≤m):RnAt C Cd H0 H r R m:=⟨I.ok.mono h,I.ex⟩
theorem RnP.retag {ex:Tg→Bool} {tg tg':Addr→Tg} {dl wd td tr lo:Addr} {ps:List Addr} {wa ta:Str→Addr} (P:RnP C Cd exN H0 H r R tg dl wd td tr lo ps wa ta) (k:Kp [] H H') (h:∀ b,H b ≠ none→tg' b=tg b) :
  RnP C Cd exN H0 H' r R tg' dl wd td tr lo ps wa ta:=by
 have nn:∀ {b:Addr} {o:HO},H b=some o→tg' b=tg b:=fun {b o} e=>h b (by rw[e];simp)
 have tk:TK H H':=fun b xs e=>k.get e nEm
 obtain⟨dx,hob⟩:=P.ob rfl
 obtain⟨al,hl,L⟩:=P.hlo rfl
 refine⟨P.kp.trans k,fun b o e=>(nn (P.kp.get e nEm)).trans (P.fr b o e),(nn hob).trans P.tr_,fun _=>⟨dx,k.get hob nEm⟩,(nn (P.hdl rfl)).trans P.tdl,fun _=>k.get (P.hdl rfl) nEm,P.len,fun i p T F e1 e2 _ _ _=> ?_,
  (nn (P.hwd rfl)).trans P.twd,fun _=>k.get (P.hwd rfl) nEm,fun x ss hm _=> ?_,(nn (P.htd rfl)).trans P.ttd,fun _=>k.get (P.htd rfl) nEm,fun x ss hm _=> ?_,(nn (P.htr rfl)).trans P.ttr,fun _=>k.get (P.htr rfl) nEm,(nn hl).trans P.tlo,fun _=>⟨al,k.get hl nEm,L.tk tk⟩⟩
 ·obtain⟨tp,s,d,D,ts,td'⟩:=P.dk i p T F e1 e2 rfl rfl rfl
  obtain⟨dy,hp⟩:=D.ob
  exact⟨(nn hp).trans tp,s,d,D.same k,(nn D.st).trans ts,(nn D.ft).trans td'⟩
 ·obtain⟨t,as,h,S⟩:=P.wk x ss hm rfl
  exact⟨(nn h).trans t,as,k.get h nEm,S.tk tk⟩
 ·obtain⟨t,as,h,S⟩:=P.tl x ss hm rfl
  exact⟨(nn h).trans t,as,k.get h nEm,S.tk tk⟩
theorem RnAt.same (I:RnAt C Cd H0 H r R n) (k:Kp [] H H'):RnAt C Cd H0 H' r R n:=by
 obtain⟨tg,dl,wd,td,tr,lo,ps,wa,ta,P⟩:=I.ex
 exact⟨I.ok,tg,dl,wd,td,tr,lo,ps,wa,ta,P.retag (ex:=exN) k fun _ _=>rfl⟩
theorem RnAt.new {a:Addr} {o:HO} (I:RnAt C Cd H0 H r R n) (ha:H a=none):RnAt C Cd (upd H0 a o) (upd H a o) r R n:=by
 obtain⟨tg,dl,wd,td,tr,lo,ps,wa,ta,P⟩:=I.ex
 have Q:=P.retag (ex:=exN) (tg':=fun b=>if b=a then .no else tg b) (Kp.new (o:=o) ha) fun b hb=>if_neg fun z=>hb (by rw[z];exact ha)
 refine⟨I.ok,_,dl,wd,td,tr,lo,ps,wa,ta,⟨fun b u e _=> ?_,fun b u e=> ?_,Q.tr_,Q.ob,Q.tdl,Q.hdl,Q.len,Q.dk,Q.twd,Q.hwd,Q.wk,Q.ttd,Q.htd,Q.tl,Q.ttr,Q.htr,Q.tlo,Q.hlo⟩⟩
 ·by_cases z:b=a
  ·subst z;rw[q03]at e ⊢;exact e
  ·rw[q0b z]at e ⊢;exact P.kp.get e nEm
 ·by_cases z:b=a
  ·exact if_pos z
  ·rw[q0b z]at e
   exact Q.fr b u e
theorem RnAt.frame {a:Addr} {o o':HO} (I:RnAt C Cd H0 H r R n) (ha:H0 a=some o) (nt:∀ ys,o ≠ .tup ys):RnAt C Cd (upd H0 a o') (upd H a o') r R n:=by
 obtain⟨tg,dl,wd,td,tr,lo,ps,wa,ta,P⟩:=I.ex
 have ta':tg a= .no:=P.fr a o ha
 have haH:H a=some o:=P.kp.get ha nEm
 have ne:∀ {b:Addr} {t:Tg},tg b=t→t ≠ .no→b ≠ a:=fun {b t} e f z=>f (by rw[← e,z,ta'])
 have get:∀ {b:Addr} {u:HO} {t:Tg},tg b=t→t ≠ .no→H b=some u→(upd H a o') b=some u:=fun e f h=>by rw[q0b (ne e f)];exact h
 have tk:TK H (upd H a o'):=fun b xs e=>by
  rw[q0b fun z=>nt xs (by rw[z,haH]at e;exact Option.some.inj e)]
  exact e
 obtain⟨dx,hob⟩:=P.ob rfl
 obtain⟨al,hl,L⟩:=P.hlo rfl
 refine⟨I.ok,tg,dl,wd,td,tr,lo,ps,wa,ta,⟨fun b u e _=> ?_,fun b u e=> ?_,P.tr_,fun _=>⟨dx,get P.tr_ (by simp) hob⟩,P.tdl,fun _=>get P.tdl (by simp) (P.hdl rfl),P.len,fun i p T F e1 e2 _ _ _=> ?_,
  P.twd,fun _=>get P.twd (by simp) (P.hwd rfl),fun x ss hm _=> ?_,P.ttd,fun _=>get P.ttd (by simp) (P.htd rfl),fun x ss hm _=> ?_,P.ttr,fun _=>get P.ttr (by simp) (P.htr rfl),P.tlo,fun _=>⟨al,get P.tlo (by simp) hl,L.tk tk⟩⟩⟩
 ·by_cases z:b=a
  ·subst z;rw[q03]at e ⊢;exact e
  ·rw[q0b z]at e ⊢;exact P.kp.get e nEm
 ·by_cases z:b=a
  ·rw[z];exact ta'
  ·rw[q0b z]at e
   exact P.fr b u e
 ·obtain⟨tp,s,d,D,ts,td'⟩:=P.dk i p T F e1 e2 rfl rfl rfl
  obtain⟨dy,hp⟩:=D.ob
  exact⟨tp,s,d,⟨⟨dy,get tp (by simp) hp⟩,get ts (by simp) D.st,get td' (by simp) D.ft⟩,ts,td'⟩
 ·obtain⟨t,as,h,S⟩:=P.wk x ss hm rfl
  exact⟨t,as,get t (by simp) h,S.tk tk⟩
 ·obtain⟨t,as,h,S⟩:=P.tl x ss hm rfl
  exact⟨t,as,get t (by simp) h,S.tk tk⟩
end
end K07
end
section
namespace K07
open PySem L2
structure TxtR (K:PySem.W.Frag) (mg:Str→Option Value) (C:Addr):Prop where
 cl:Cls K C
 nDesks:q2t K C "desks"
 nBound:q2t K C "bound"
 nUp:q2t K C "up"
 nWorks:q2t K C "works"
 nTrails:q2t K C "trails"
 nTries:q2t K C "tries"
 nLost:q2t K C "lost"
def exD (i:Nat):Tg→Bool
 | .stock j=>j == i
 | .fates j=>j == i
 | _=>false
def qj1:Tg→Bool
 | .tries=>true
 | _=>false
def qh5:Tg→Bool
 | .lost=>true
 | _=>false
def qk8:Tg→Bool
 | .run=>true
 | _=>false
def q74 (x:Str):Tg→Bool
 | .trail y=>decide (y=x)
 | _=>false
section
variable {C Cd r dl wd td tr lo:Addr} {H0 H H':Hp} {R:Rn} {tg:Addr→Tg} {ps:List Addr} {wa ta:Str→Addr} {n:Nat}
theorem RnP.deskW {i:Nat} {p s d:Addr} {T T':Tb} {F F':Fb} (P:RnP C Cd exN H0 H r R tg dl wd td tr lo ps wa ta) (e1:ps[i]? = some p) (tp:tg p= .desk) (D:DeskAt Cd H p s d T F) (ts:tg s= .stock i) (td':tg d= .fates i)
  (D':DeskAt Cd H' p s d T' F') (k:Kp [s,d] H H'):RnP C Cd exN H0 H' r (setD R i (T',F')) tg dl wd td tr lo ps wa ta:=by
 have Q:=P.step (ex:=exD i) k (by
  intro a ha
  simp at ha
  rcases ha with z | z
  ·rw[z,ts];exact⟨by simp[exD],by simp,fun ys e=>by rw[D.st]at e;cases e⟩
  ·rw[z,td'];exact⟨by simp[exD],by simp,fun ys e=>by rw[D.ft]at e;cases e⟩)
 refine⟨Q.kp,Q.fr,Q.tr_,fun _=>Q.ob rfl,Q.tdl,fun _=>Q.hdl rfl,by rw[Q.len];exact List.length_set.symm,fun j q T2 F2 e3 e4 _ _ _=> ?_,Q.twd,fun _=>Q.hwd rfl,fun x ss hm _=>Q.wk x ss hm rfl,Q.ttd,fun _=>Q.htd rfl,fun x ss hm _=>Q.tl x ss hm rfl,Q.ttr,fun _=>Q.htr rfl,Q.tlo,fun _=>Q.hlo rfl⟩
 by_cases ej:j=i
 ·subst ej
  rw[e1]at e3
  obtain rfl:p=q:=Option.some.inj e3
  have e4':(R.desks.set j (T',F'))[j]? = some (T2,F2):=e4
  rw[List.getElem?_set_self' ]at e4'
  cases e5:R.desks[j]? with
  | none=>rw[e5]at e4';cases e4'
  | some z =>
   rw[e5]at e4'
   cases e4'
   exact⟨tp,s,d,D',ts,td'⟩
 ·have e4':(R.desks.set i (T',F'))[j]? = some (T2,F2):=e4
  rw[List.getElem?_set_ne (Ne.symm ej)]at e4'
  exact Q.dk j q T2 F2 e3 e4' (by simp[exD,ej]) (by simp[exD,ej]) rfl
theorem RnP.triesW {T':Tb} (P:RnP C Cd exN H0 H r R tg dl wd td tr lo ps wa ta):RnP C Cd exN H0 (upd H tr (.dK T')) r { R with tries:=T' } tg dl wd td tr lo ps wa ta:=by
 have Q:=P.step (ex:=qj1) (H':=upd H tr (.dK T')) (xs:=[tr]) (Kp.put (by simp)) (by
  intro a ha
  simp at ha
  subst ha
  rw[P.ttr]
  exact⟨rfl,by simp,fun ys e=>by rw[P.htr rfl]at e;cases e⟩)
 exact⟨Q.kp,Q.fr,Q.tr_,fun _=>Q.ob rfl,Q.tdl,fun _=>Q.hdl rfl,Q.len,fun i p T F e1 e2 _ _ _=>Q.dk i p T F e1 e2 rfl rfl rfl,Q.twd,fun _=>Q.hwd rfl,fun x ss hm _=>Q.wk x ss hm rfl,Q.ttd,fun _=>Q.htd rfl,fun x ss hm _=>Q.tl x ss hm rfl,Q.ttr,fun _=>q03,Q.tlo,fun _=>Q.hlo rfl⟩
theorem RnP.lostW {as:List Addr} {a:Addr} {q:Int×Rq} (P:RnP C Cd exN H0 H r R tg dl wd td tr lo ps wa ta) (hl:H lo=some (.lst (as.map V.ref))) (L:Losts H as R.lost) (hq:LoAt H a q) :
  RnP C Cd exN H0 (upd H lo (.lst (as.map V.ref ++ [.ref a]))) r { R with lost:=R.lost ++ [q] } tg dl wd td tr lo ps wa ta∧TK H (upd H lo (.lst (as.map V.ref ++ [.ref a]))):=by
 have hx:∀ b ∈ [lo],qh5 (tg b)=true∧tg b ≠ .no∧∀ ys,H b ≠ some (.tup ys):=by
  intro b hb
  simp at hb
  subst hb
  rw[P.tlo]
  exact⟨rfl,by simp,fun ys e=>by rw[hl]at e;cases e⟩
 have k:Kp [lo] H (upd H lo (.lst (as.map V.ref ++ [.ref a]))):=Kp.put (by simp)
 have tk:=Kp.tk k fun b hb=>(hx b hb).2.2
 have Q:=P.step (ex:=qh5) k hx
 refine⟨⟨Q.kp,Q.fr,Q.tr_,fun _=>Q.ob rfl,Q.tdl,fun _=>Q.hdl rfl,Q.len,fun i p T F e1 e2 _ _ _=>Q.dk i p T F e1 e2 rfl rfl rfl,Q.twd,fun _=>Q.hwd rfl,fun x ss hm _=>Q.wk x ss hm rfl,Q.ttd,fun _=>Q.htd rfl,fun x ss hm _=>Q.tl x ss hm rfl,Q.ttr,fun _=>Q.htr rfl,Q.tlo,fun _=>⟨as ++ [a],?_,?_⟩⟩,tk⟩
 ·rw[q03,List.map_append];rfl
 ·obtain⟨b,h1,h2⟩:=hq
  exact(L.tk tk).snoc ⟨b,tk _ _ h1,tk _ _ h2⟩
theorem RnP.trailW {x:Str} {ss:List Stp} {as:List Addr} {a:Addr} {e:En} (P:RnP C Cd exN H0 H r R tg dl wd td tr lo ps wa ta) (hm:(x,ss) ∈ R.works) (hl:H (ta x)=some (.lst (as.map V.ref))) (L:Ents H as (R.trail x)) (ha:H a=some (.tup (enV e))) :
  RnP C Cd exN H0 (upd H (ta x) (.lst (as.map V.ref ++ [.ref a]))) r { R with trail:=fun y=>if y=x then R.trail x ++ [e] else R.trail y } tg dl wd td tr lo ps wa ta∧TK H (upd H (ta x) (.lst (as.map V.ref ++ [.ref a]))):=by
 have tx:=(P.tl x ss hm rfl).1
 have hx:∀ b ∈ [ta x],q74 x (tg b)=true∧tg b ≠ .no∧∀ ys,H b ≠ some (.tup ys):=by
  intro b hb
  simp at hb
  subst hb
  rw[tx]
  exact⟨by simp[q74],by simp,fun ys e=>by rw[hl]at e;cases e⟩
 have k:Kp [ta x] H (upd H (ta x) (.lst (as.map V.ref ++ [.ref a]))):=Kp.put (by simp)
 have tk:=Kp.tk k fun b hb=>(hx b hb).2.2
 have Q:=P.step (ex:=q74 x) k hx
 refine⟨⟨Q.kp,Q.fr,Q.tr_,fun _=>Q.ob rfl,Q.tdl,fun _=>Q.hdl rfl,Q.len,fun i p T F e1 e2 _ _ _=>Q.dk i p T F e1 e2 rfl rfl rfl,Q.twd,fun _=>Q.hwd rfl,fun x ss hm _=>Q.wk x ss hm rfl,Q.ttd,fun _=>Q.htd rfl,fun y ss' hm' _=> ?_,Q.ttr,fun _=>Q.htr rfl,Q.tlo,fun _=>Q.hlo rfl⟩,tk⟩
 by_cases ey:y=x
 ·subst ey
  refine⟨tx,as ++ [a],by rw[q03,List.map_append];rfl,?_⟩
  dsimp only
  rw[if_pos rfl]
  exact(L.tk tk).app (.one (tk _ _ ha))
 ·have:=Q.tl y ss' hm' (by simp[q74,ey])
  dsimp only
  rw[if_neg ey]
  exact this
theorem RnP.runW {dx dl' wd':Addr} {u:Bool} {tr':Addr} {T':Tb} (P:RnP C Cd exN H0 H r R tg dl wd td tr lo ps wa ta) (htr:(upd H r (.ins C dx (q2k dl R.bound u wd td tr' lo))) tr'=some (.dK T')) (ttr:tg tr'= .tries) :
  RnP C Cd exN H0 (upd H r (.ins C dx (q2k dl R.bound u wd td tr' lo))) r { R with up:=u,tries:=T' } tg dl wd td tr' lo ps wa ta∧TK H (upd H r (.ins C dx (q2k dl R.bound u wd td tr' lo))):=by
 obtain⟨dy,ho⟩:=P.ob rfl
 have hx:∀ b ∈ [r],qk8 (tg b)=true∧tg b ≠ .no∧∀ ys,H b ≠ some (.tup ys):=by
  intro b hb
  simp at hb
  subst hb
  rw[P.tr_]
  exact⟨rfl,by simp,fun ys e=>by rw[ho]at e;cases e⟩
 have k:Kp [r] H (upd H r (.ins C dx (q2k dl R.bound u wd td tr' lo))):=Kp.put (by simp)
 have Q:=P.step (ex:=qk8) k hx
 exact⟨⟨Q.kp,Q.fr,Q.tr_,fun _=>⟨dx,q03⟩,Q.tdl,fun _=>Q.hdl rfl,Q.len,fun i p T F e1 e2 _ _ _=>Q.dk i p T F e1 e2 rfl rfl rfl,Q.twd,fun _=>Q.hwd rfl,fun x ss hm _=>Q.wk x ss hm rfl,Q.ttd,fun _=>Q.htd rfl,fun x ss hm _=>Q.tl x ss hm rfl,ttr,fun _=>htr,Q.tlo,fun _=>Q.hlo rfl⟩,Kp.tk k fun b hb=>(hx b hb).2.2⟩
end
def DkIn (C Cd:Addr) (H0 H:Hp) (r:Addr) (R:Rn) (k:Int) (p:Addr):Prop:=∃ (tg:Addr→Tg) (dl wd td tr lo:Addr) (ps:List Addr) (wa ta:Str→Addr),RnP C Cd exN H0 H r R tg dl wd td tr lo ps wa ta∧ps[k.toNat]? = some p
theorem q0n {m:Nat} (h:m≤900):m < sizeLine:=Nat.lt_of_le_of_lt h (by decide)
section
variable {P:Program} {w:World} {K:PySem.W.Frag} {mg:Str→Option Value} {base:Heap}
def q56 (C Cd CN:Addr):Sp:=fun vs H Q E=>∃ (r:Addr) (k:Int) (H0:Hp) (R:Rn) (n:Nat),vs=[.ref r,.int k]∧RnAt C Cd H0 H r R n∧R.desks.length≤900∧(inD R k=true→∀ p,DkIn C Cd H0 H r R k p→Q (.ref p) H)∧(inD R k=false→E (.ref CN) none H)
theorem q8b:FnScope ["self","number"] ["self","number"] (q06 q41):=⟨rfl,rfl,rfl,by decide +kernel,rfl,by decide +kernel,by decide +kernel⟩
theorem qd7 {f C Cd C_NoDesk:Addr} {fd:FuncData} (Fn:Fun K "desk_at" "Runner.desk_at" q41 f fd) (T:TxtR K mg C) (B:Blt mg) (g_NoDesk:mg "NoDesk" = some (.ref C_NoDesk)) (q_NoDesk:PySem.W.excIn K C_NoDesk [.type "ValueError",.type "Exception",.type "BaseException",.type "object"] "ValueError.__new__" = true) :
  FnOk P w K mg base (CX1 P w) 1 f fd ["self","number"] (q56 C Cd C_NoDesk):=by
 refine Fn.okX q8b (fun vs H Q E h=> ?_) (fun cdv A outer s H vs Q E hr h=> ?_)
 ·obtain⟨r,k,H0,R,n,rfl,_⟩:=h
  rfl
 ·obtain⟨r,k,H0,R,n,rfl,I,hz,k1,k2⟩:=h
  have nd:=q8b.nd
  have fx:=q3x (CX:=CX1 P w) (P:=P) (w:=w) (K:=K) (mg:=mg) (base:=base) (N:=["self","number"]) (qual:= "Runner.desk_at") (scope:=q06 q41) (f:=f) (cd:=cdv) (A:=A) (outer:=outer) (s:=s) (H:=H) (E:=E)
  obtain⟨tg,dl,wd,td,tr,lo,ps,wa,ta,Pp⟩:=I.ex
  obtain⟨dx,ho⟩:=Pp.ob rfl
  have hdl:=Pp.hdl rfl
  refine⟨_,(q1f (q82 (PW.pt (q2u (q0f q5n (pv 1) q02 (q0i _)) (q23 (q0f q72 (pv 1) (q0e q0m rfl B.len PySem.boot_len (q00 (q1a (pv 0) rfl) q05)) (q0i _)))))
   (q1v (q7r fx rfl g_NoDesk q_NoDesk PySem.F.excBase_ValueError (q00 q09 q05)))
   (q5d q0c))
   (q1v (q31 (q0a (q0k q13 (q1a (pv 0) rfl) (pv 1) (fun _ _=>rfl)))))),?_⟩
  refine⟨_,rfl,_,_,rfl,rfl,_,rfl,?_⟩
  by_cases h0:k < 0
  ·refine iteD h0 (iteT ⟨(by show 1≤sizeLine;decide),?_⟩)
   exact k2 (by unfold inD;rw[decide_eq_false (by omega:¬ 0≤k)];rfl)
  refine q14 h0 ?_
  refine⟨_,rfl,_,rfl,r,C,dx,_,_,rfl,ho,T.cl,T.nDesks,q55 ..,dl,_,rfl,.inl (SqL.of hdl),_,_,rfl,rfl,_,rfl,?_⟩
  rw[List.length_map,Pp.len]
  by_cases h1:(R.desks.length:Int)≤k
  ·refine iteD h1 ⟨(by show 1≤sizeLine;decide),?_⟩
   exact k2 (by unfold inD;rw[decide_eq_false (by omega:¬ k < (R.desks.length:Int)),Bool.and_false])
  refine q14 h1 ?_
  obtain⟨i,rfl⟩:∃ i:Nat,k=(i:Int):=⟨k.toNat,by omega⟩
  have hi:i < ps.length:=by rw[Pp.len];omega
  have ei:ps[i]? = some ps[i]:=List.getElem?_eq_getElem hi
  refine⟨_,rfl,r,C,dx,_,_,rfl,ho,T.cl,T.nDesks,q55 ..,_,rfl,dl,_,_,_,rfl,rfl,SqL.of hdl,q08 (j:=i) (v:= .ref ps[i]) (by rw[List.getElem?_map,ei];rfl),?_⟩
  refine k1 (by unfold inD;rw[decide_eq_true (by omega:(0:Int)≤i),decide_eq_true (by omega:(i:Int) < (R.desks.length:Int))];rfl) _ ⟨tg,dl,wd,td,tr,lo,ps,wa,ta,Pp,?_⟩
  show ps[(i:Int).toNat]? = some ps[i]
  rw[Int.toNat_natCast];exact ei
def q8n (C Cd:Addr):Sp:=fun vs H Q _=>∃ (r:Addr) (k:Int) (H0:Hp) (R:Rn) (n:Nat),vs=[.ref r,.int k]∧RnAt C Cd H0 H r R n∧R.desks.length≤900∧inD R k=true∧∀ p,DkIn C Cd H0 H r R k p→Q (.ref p) H
theorem q9h {C Cd CN f:Addr} {fd:FuncData} {k:Nat} {ps:List Str} (F:FnOk P w K mg base (CX1 P w) k f fd ps (q56 C Cd CN)):FnOk P w K mg base CX0 k f fd ps (q8n C Cd) :=
 F.calm fun vs H Q E ⟨r,k,H0,R,n,e,I,hz,h1,h2⟩=>⟨r,k,H0,R,n,e,I,hz,fun _=>h2,fun h=>absurd (h1.symm.trans h) (by simp)⟩
theorem q4o {dl wd td tr lo:Addr} {b:Int} {u:Bool} {m:Str} (h:(["desks","bound","up","works","trails","tries","lost"]:List Str).all (fun y=>decide (¬ m=y))=true):(q2k dl b u wd td tr lo).lookup m=none:=by
 rw[fR]
 simp only[List.all_cons,List.all_nil,Bool.and_true,Bool.and_eq_true,decide_eq_true_eq]at h
 obtain⟨h1,h2,h3,h4,h5,h6,h7⟩:=h
 have q:∀ {y:Str},¬ m=y→(m == y)=false:=fun z=>beq_eq_false_iff_ne.mpr z
 simp only[List.lookup_cons,q h1,q h2,q h3,q h4,q h5,q h6,q h7,List.lookup_nil]
def q7f (C Cd:Addr):Sp:=fun vs H Q _=>∃ (r a:Addr) (d:Int) (q:Rq) (H0:Hp) (R:Rn) (n:Nat),vs=[.ref r,.ref a]∧LoAt H a (d,q)∧RnAt C Cd H0 H r R n∧R.desks.length≤900∧n≤890∧inD R d=true ∧
 ∀ H',RnAt C Cd H0 H' r (q0r R d q).2 (n + 1)→TK H H'→Q (.str (q0r R d q).1) H'
theorem q8e:FnScope ["self","sent"] ["self","sent"] (q06 q4t):=⟨rfl,rfl,rfl,by decide +kernel,rfl,by decide +kernel,by decide +kernel⟩
theorem qc9 {R:Rn} {k:Int} (h:inD R k=true):∃ i:Nat,k=(i:Int)∧∃ T F,R.desks[i]? = some (T,F):=by
 unfold inD at h
 simp only[Bool.and_eq_true,decide_eq_true_eq]at h
 refine⟨k.toNat,by omega,?_⟩
 have hi:k.toNat < R.desks.length:=by omega
 exact⟨_,_,List.getElem?_eq_getElem hi⟩
theorem qdj {f C Cd:Addr} {fd:FuncData} (Fn:Fun K "arrive" "Runner.arrive" q4t f fd) (DRunner_desk_at:Md P w K mg base CX0 C 1 "desk_at" ["self","number"] (q8n C Cd)) (DDesk_told:Md P w K mg base CX0 Cd 4 "told" ["self","request"] (qgy Cd)) :
  FnOk P w K mg base CX0 5 f fd ["self","sent"] (q7f C Cd):=by
 refine Fn.ok q8e (fun vs H Q E h=> ?_) (fun cdv A outer s H vs Q E hr h=> ?_)
 ·obtain⟨r,a,d,q,H0,R,n,rfl,_⟩:=h
  rfl
 ·obtain⟨r,a,d,q,H0,R,n,rfl,⟨b,ha,hb⟩,I,hz,hn,hd,k⟩:=h
  have nd:=q8e.nd
  obtain⟨tg,dl,wd,td,tr,lo,ps,wa,ta,Pp⟩:=I.ex
  obtain⟨dx,ho⟩:=Pp.ob rfl
  refine⟨_,(q07 (q0a (q3g DDesk_told (hr.mono (by decide)) q0z (q3g DRunner_desk_at (hr.mono (by decide)) q0z (pv 0) (q00 (q0k q0h (pv 1) q02 (fun _ _=>rfl)) q05)) (q00 (q0k q0h (pv 1) q02 (fun _ _=>rfl)) q05)))),?_⟩
  refine⟨_,rfl,r,dx,_,rfl,ho,q4o (by decide +kernel),_,rfl,a,_,_,_,rfl,rfl,SqT.of ha,q08 (j:=0) rfl,r,d,H0,R,n,rfl,I,hz,hd,fun p Dk=> ?_⟩
  clear Pp ho
  obtain⟨tg,dl,wd,td,tr,lo,ps,wa,ta,Pp,ep⟩:=Dk
  obtain⟨i,rfl,T,F,eT⟩:=qc9 hd
  rw[Int.toNat_natCast]at ep
  obtain⟨tp,s,dd,D,ts,td'⟩:=Pp.dk i p T F ep eT rfl rfl rfl
  obtain⟨dy,hp⟩:=D.ob
  refine⟨p,dy,_,rfl,hp,q40 _ _ (by decide +kernel) (by decide +kernel),_,rfl,a,_,_,_,rfl,rfl,SqT.of ha,q08 (j:=1) rfl,p,b,s,dd,T,F,q,rfl,hb,D,(I.ok.ok T F (List.mem_of_getElem? eT)).mono (by omega),fun H' D' kp=> ?_⟩
  have ea:q0r R i q=((q21 T F q).1,setD R i (q21 T F q).2):=by unfold q0r;rw[Int.toNat_natCast,eT]
  have R1:=I.ok.arrive (d:=(i:Int)) (q:=q)
  rw[ea]at k R1
  refine k H' ⟨R1,tg,dl,wd,td,tr,lo,ps,wa,ta,Pp.deskW ep tp D ts td' D' kp⟩ (Kp.tk kp fun c hc ys e=> ?_)
  simp at hc
  rcases hc with z | z
  ·rw[z,D.st]at e;cases e
  ·rw[z,D.ft]at e;cases e
end
end K07
end
section
namespace K07
open PySem L2
section
variable {P:Program} {w:World} {K:PySem.W.Frag} {mg:Str→Option Value} {base:Heap}
def qjr (C Cd:Addr):Sp:=fun vs H Q _=>∃ (r c:Addr) (x word:Str) (i:Int) (ss:List Stp) (s:Stp) (H0:Hp) (R:Rn) (n:Nat),vs=[.ref r,.str x,.ref c]∧H c=some (.tup [.str word,.int i])∧RnAt C Cd H0 H r R n∧R.wk x=some ss∧0≤i∧ss[i.toNat]? = some s ∧
 ∀ a H',H a=none→LoAt H' a (s.d,reqM x s word i)→Kp [] H H'→Q (.ref a) H'
theorem qhb:FnScope ["self","name","coming","step"] ["self","name","coming"] (q06 rReq):=⟨rfl,rfl,rfl,by decide +kernel,rfl,by decide +kernel,by decide +kernel⟩
theorem qky {f C Cd:Addr} {fd:FuncData} (Fn:Fun K "request_for" "Runner.request_for" rReq f fd) (T:TxtR K mg C):FnOk P w K mg base CX0 1 f fd ["self","name","coming"] (qjr C Cd):=by
 refine Fn.ok qhb (fun vs H Q E h=> ?_) (fun cdv A outer s H vs Q E hr h=> ?_)
 ·obtain⟨r,c,x,word,i,ss,s,H0,R,n,rfl,_⟩:=h
  rfl
 ·obtain⟨r,c,x,word,i,ss,s,H0,R,n,rfl,hc,I,hw,h0,es,k⟩:=h
  have nd:=qhb.nd
  have hu:=q3f hr
  obtain⟨tg,dl,wd,td,tr,lo,ps,wa,ta,Pp⟩:=I.ex
  obtain⟨dx,ho⟩:=Pp.ob rfl
  obtain⟨_,as,hwa,S⟩:=Pp.wk x ss (q2q hw) rfl
  have gw:DGet H wd (.str x) (some (.ref (wa x))):=by
   have:=DGet.k (k:=Sum.inr x) (Pp.hwd rfl)
   rw[q2p]at this
   rw[show wkF R.works x=some ss from hw]at this
   exact this
  obtain⟨j,rfl⟩:∃ j:Nat,i=(j:Int):=⟨i.toNat,by omega⟩
  rw[Int.toNat_natCast]at es
  obtain⟨sa,esa,hsa⟩:=S.get es
  refine⟨_,(q01 (q0s (i:=3) nd rfl (Or.inl rfl) (q0k q13 (q0u hu (q1a (pv 0) rfl) (pv 1) (fun _ _=>rfl)) (q0k q0h (pv 2) q02 (fun _ _=>rfl)) (fun _ _=>rfl)))
   (q07 (q0a (q19 (q00 (q0k q0h (pv 3) q02 (fun _ _=>rfl)) (q00 (q19 (q00 (q0k q0h (pv 2) q02 (fun _ _=>rfl)) (q00 (pv 1) (q00 (q0k q0h (pv 2) q02 (fun _ _=>rfl)) (q00 (q0k q0h (pv 3) q02 (fun _ _=>rfl)) (q00 (q0k q0h (pv 3) q02 (fun _ _=>rfl)) q05)))))) q05)))))),?_⟩
  refine⟨_,rfl,r,C,dx,_,_,rfl,ho,T.cl,T.nWorks,q49 ..,_,rfl,wd,_,rfl,gw,_,rfl,c,_,_,_,rfl,rfl,SqT.of hc,q08 (j:=1) rfl,wa x,_,_,_,rfl,rfl,SqL.of hwa,q08 (j:=j) (v:= .ref sa) (by rw[List.getElem?_map,esa];rfl),?_⟩
  refine⟨_,rfl,sa,_,_,_,rfl,rfl,SqT.of hsa,q08 (j:=0) rfl,_,rfl,c,_,_,_,rfl,rfl,SqT.of hc,q08 (j:=0) rfl,_,rfl,_,rfl,c,_,_,_,rfl,rfl,SqT.of hc,q08 (j:=1) rfl,_,rfl,sa,_,_,_,rfl,rfl,SqT.of hsa,q08 (j:=1) rfl,
   _,rfl,sa,_,_,_,rfl,rfl,SqT.of hsa,q08 (j:=2) rfl,(by show 5≤sizeLine;decide),fun b hb=>⟨(by show 2≤sizeLine;decide),fun a ha=> ?_⟩⟩
  obtain⟨nab,ha'⟩:=q1u ha
  refine k a _ ha' ⟨b,q03,?_⟩ ((Kp.new hb).trans (Kp.new ha))
  rw[q0b (Ne.symm nab),q03]
  rfl
def optV:Option Str→V
 | some w=> .str w
 | none=> .non
def qgq (C Cd:Addr):Sp:=fun vs H Q _=>∃ (r a:Addr) (luck:Str) (d:Int) (q:Rq) (H0:Hp) (R:Rn) (n:Nat),vs=[.ref r,.ref a,.str luck]∧LoAt H a (d,q)∧RnAt C Cd H0 H r R n∧R.desks.length≤900∧n≤890∧inD R d=true ∧
 ∀ H',RnAt C Cd H0 H' r (q1d R d q luck).2 (n + 1)→TK H H'→Q (optV (q1d R d q luck).1) H'
theorem qdh:FnScope ["self","sent","luck","word"] ["self","sent","luck"] (q06 qbh):=⟨rfl,rfl,rfl,by decide +kernel,rfl,by decide +kernel,by decide +kernel⟩
theorem qi9 {f C Cd:Addr} {fd:FuncData} (Fn:Fun K "send" "Runner.send" qbh f fd) (T:TxtR K mg C) (DRunner_arrive:Md P w K mg base CX0 C 5 "arrive" ["self","sent"] (q7f C Cd)):FnOk P w K mg base CX0 6 f fd ["self","sent","luck"] (qgq C Cd):=by
 refine Fn.ok qdh (fun vs H Q E h=> ?_) (fun cdv A outer s H vs Q E hr h=> ?_)
 ·obtain⟨r,a,luck,d,q,H0,R,n,rfl,_⟩:=h
  rfl
 ·obtain⟨r,a,luck,d,q,H0,R,n,rfl,La,I,hz,hn,hd,k⟩:=h
  have nd:=qdh.nd
  obtain⟨tg,dl,wd,td,tr,lo,ps,wa,ta,Pp⟩:=I.ex
  obtain⟨dx,ho⟩:=Pp.ob rfl
  refine⟨_,(q01 (q0q (q0f q1i (pv 2) q09 (q0i _))
   (q01 (q2a (q52 PySem.F.plainAttrs_list PySem.F.slot_list_append PySem.F.type_list_append q1o (q1a (pv 0) rfl) (q00 (pv 1) q05)))
   (q07 (q0a q4k)))
   q0c)
   (q01 (q0s (i:=3) nd rfl (Or.inl rfl) (q3g DRunner_arrive (hr.mono (by decide)) q0z (pv 0) (q00 (pv 1) q05)))
   (q07 (q0a (q6y (q0f q1i (pv 2) q09 (q0i _)) (pv 3) q4k))))),?_⟩
  refine⟨_,rfl,rfl,_,rfl,?_⟩
  unfold q1d at k
  by_cases e1:luck= "lost"
  ·refine iteD (congrArg V.str e1) ?_
   rw[if_pos e1]at k
   obtain⟨al,hl,L⟩:=Pp.hlo rfl
   refine⟨_,rfl,r,C,dx,_,_,rfl,ho,T.cl,T.nLost,q6z ..,.inl ⟨rfl,_,SqL.of hl⟩,_,rfl,lo,_,_,rfl,rfl,hl,?_,?_⟩
   ·rw[List.length_map,L.len]
    exact q0n (by have:=I.ok.sl;omega)
   have hd':=hd
   unfold inD at hd'
   simp only[Bool.and_eq_true,decide_eq_true_eq]at hd'
   obtain⟨P2,tk⟩:=Pp.lostW hl L La
   exact k _ ⟨I.ok.addLost hd'.1 hd'.2,tg,dl,wd,td,tr,lo,ps,wa,ta,P2⟩ tk
  ·refine q14 (fun z=>e1 (V.str.inj z)) ?_
   rw[if_neg e1]at k
   refine⟨_,rfl,r,dx,_,rfl,ho,q4o (by decide +kernel),_,rfl,r,a,d,q,H0,R,n,rfl,La,I,hz,hn,hd,fun H' I' tk=> ?_⟩
   refine⟨_,rfl,rfl,_,rfl,?_⟩
   have k':=k H' I' tk
   by_cases e2:luck= "ok"
   ·refine iteD (congrArg V.str e2) ?_
    rw[if_pos e2]at k'
    exact⟨_,rfl,k'⟩
   ·refine q14 (fun z=>e2 (V.str.inj z)) ?_
    rw[if_neg e2]at k'
    exact k'
def q7y (C Cd:Addr):Sp:=fun vs H Q _=>∃ (r c:Addr) (x:Str) (undo:Bool) (i:Int) (H0:Hp) (R:Rn) (n:Nat),vs=[.ref r,.str x,.ref c]∧H c=some (.tup [.str (if undo=true then "undo" else "do"),.int i])∧RnAt C Cd H0 H r R n∧n≤890 ∧
 ∀ H',RnAt C Cd H0 H' r (q15 R x undo).2 (n + 1)→TK H H'→Q (optV (q15 R x undo).1) H'
theorem q67:FnScope ["self","name","coming"] ["self","name","coming"] (q06 q3k):=⟨rfl,rfl,rfl,by decide +kernel,rfl,by decide +kernel,by decide +kernel⟩
theorem qbd {f C Cd:Addr} {fd:FuncData} (Fn:Fun K "unheard" "Runner.unheard" q3k f fd) (T:TxtR K mg C):FnOk P w K mg base CX0 1 f fd ["self","name","coming"] (q7y C Cd):=by
 refine Fn.ok q67 (fun vs H Q E h=> ?_) (fun cdv A outer s H vs Q E hr h=> ?_)
 ·obtain⟨r,c,x,undo,i,H0,R,n,rfl,_⟩:=h
  rfl
 ·obtain⟨r,c,x,undo,i,H0,R,n,rfl,hc,I,hn,k⟩:=h
  have nd:=q67.nd
  have hu:=q3f hr
  obtain⟨tg,dl,wd,td,tr,lo,ps,wa,ta,Pp⟩:=I.ex
  obtain⟨dx,ho⟩:=Pp.ob rfl
  refine⟨_,(q01 (q0q (q0f q1i (q0k q0h (pv 2) q02 (fun _ _=>rfl)) q09 (q0i _))
   (q07 (q0a q4k))
   q0c)
   (q01 (q1e hu (q1a (pv 0) rfl) (pv 1) (q0l q24 (q3q hu (q1a (pv 0) rfl) (pv 1) q02 ⟨rfl,rfl,rfl,rfl⟩) q02) rfl)
   (q07 (q0a (q6y (q0f q72 (q0u hu (q1a (pv 0) rfl) (pv 1) (fun _ _=>rfl)) (q1a (pv 0) rfl) (q0i _)) q09 q4k))))),?_⟩
  refine⟨_,rfl,c,_,_,_,rfl,rfl,SqT.of hc,q08 (j:=0) rfl,rfl,_,rfl,?_⟩
  cases undo with
  | true =>
   refine iteD rfl ?_
   exact k H (I.mono (Nat.le_succ n)) (TK.refl H)
  | false =>
   refine q14 (by intro z;exact absurd (V.str.inj z) (by decide +kernel)) ?_
   have htr:=Pp.htr rfl
   have hl:=I.ok.lt
   refine⟨_,rfl,r,C,dx,_,_,rfl,ho,T.cl,T.nTries,q57 ..,tr,rfl,.inl ⟨_,.inl htr⟩,_,rfl,_,DGet.k (k:=Sum.inr x) htr,_,_,by rw[I.ok.it.get x],rfl,?_⟩
   refine⟨_,rfl,r,C,dx,_,_,rfl,ho,T.cl,T.nTries,q57 ..,_,rfl,tr,_,rfl,DPut.k (k:=Sum.inr x) htr (q0n (by omega)),?_⟩
   have P2:=Pp.triesW (T':=putK R.tries (Sum.inr x:Key) (.int (getI R.tries x + 1)))
   have tk:TK H (upd H tr (.dK (putK R.tries (Sum.inr x:Key) (.int (getI R.tries x + 1))))):=Kp.tk (xs:=[tr]) (Kp.put (by simp)) fun b hb ys e=>by simp at hb;subst hb;rw[htr]at e;cases e
   have R2:=I.ok.setTries (x:=x) (i:=getI R.tries x + 1)
   obtain⟨dx2,ho2⟩:=P2.ob rfl
   have g2:=DGet.k (k:=Sum.inr x) (P2.htr rfl)
   rw[q1w,if_pos rfl]at g2
   have k':=k _ ⟨R2,tg,dl,wd,td,tr,lo,ps,wa,ta,P2⟩ tk
   unfold q15 at k'
   rw[if_neg (by simp)]at k'
   refine⟨_,rfl,r,C,dx2,_,_,rfl,ho2,T.cl,T.nTries,q57 ..,_,rfl,tr,_,rfl,g2,_,rfl,r,C,dx2,_,_,rfl,ho2,T.cl,T.nBound,qfm ..,_,_,rfl,rfl,_,rfl,?_⟩
   by_cases hb:R.bound≤getI R.tries x + 1
   ·refine iteD hb ?_
    rw[if_pos hb]at k'
    exact k'
   ·refine q14 hb ?_
    rw[if_neg hb]at k'
    exact k'
def q7u (C Cd:Addr):Sp:=fun vs H Q _=>∃ (r a:Addr) (x:Str) (e:En) (ss:List Stp) (H0:Hp) (R:Rn) (n:Nat),vs=[.ref r,.str x,.ref a]∧H a=some (.tup (enV e))∧RnAt C Cd H0 H r R n∧n≤890∧R.wk x=some ss∧0≤e.2∧e.2 < ss.length ∧
 ∀ H',RnAt C Cd H0 H' r (q1x R x e) (n + 2)→TK H H'→Q (.ref a) H'
theorem q42 {R:Rn} {n:Nat} (h:RnOk R n) {x:Str} {ss ss':List Stp} (h1:(x,ss) ∈ R.works) (h2:(x,ss') ∈ R.works):ss=ss':=by
 have nod:=h.nod
 generalize R.works=ws at nod h1 h2
 induction ws with
 | nil=>cases h1
 | cons w ws ih =>
  rw[List.map_cons,List.nodup_cons]at nod
  rcases List.mem_cons.mp h1 with z1 | z1 <;> rcases List.mem_cons.mp h2 with z2 | z2
  ·rw[← z1]at z2;cases z2;rfl
  ·exact absurd (List.mem_map.mpr ⟨_,z2,by rw[← z1]⟩) nod.1
  ·exact absurd (List.mem_map.mpr ⟨_,z1,by rw[← z2]⟩) nod.1
  ·exact ih nod.2 z1 z2
theorem q62:FnScope ["self","name","entry"] ["self","name","entry"] (q06 q3n):=⟨rfl,rfl,rfl,by decide +kernel,rfl,by decide +kernel,by decide +kernel⟩
theorem qb6 {f C Cd:Addr} {fd:FuncData} (Fn:Fun K "written" "Runner.written" q3n f fd) (T:TxtR K mg C):FnOk P w K mg base CX0 1 f fd ["self","name","entry"] (q7u C Cd):=by
 refine Fn.ok q62 (fun vs H Q E h=> ?_) (fun cdv A outer s H vs Q E hr h=> ?_)
 ·obtain⟨r,a,x,e,ss,H0,R,n,rfl,_⟩:=h
  rfl
 ·obtain⟨r,a,x,e,ss,H0,R,n,rfl,ha,I,hn,hw,he0,he1,k⟩:=h
  have nd:=q62.nd
  have hu:=q3f hr
  obtain⟨tg,dl,wd,td,tr,lo,ps,wa,ta,Pp⟩:=I.ex
  obtain⟨dx,ho⟩:=Pp.ob rfl
  have htr:=Pp.htr rfl
  have hl:=I.ok.lt
  refine⟨_,(q01 (q1e hu (q1a (pv 0) rfl) (pv 1) q02 rfl)
   (q01 (q2a (q52 PySem.F.plainAttrs_list PySem.F.slot_list_append PySem.F.type_list_append q1o (q0u hu (q1a (pv 0) rfl) (pv 1) (fun _ _=>rfl)) (q00 (pv 2) q05)))
   (q07 (q0a (pv 2))))),?_⟩
  refine⟨_,rfl,r,C,dx,_,_,rfl,ho,T.cl,T.nTries,q57 ..,_,rfl,tr,_,rfl,DPut.k (k:=Sum.inr x) htr (q0n (by omega)),?_⟩
  have P2:=Pp.triesW (T':=putK R.tries (Sum.inr x:Key) (.int 0))
  have tk:TK H (upd H tr (.dK (putK R.tries (Sum.inr x:Key) (.int 0)))):=Kp.tk (xs:=[tr]) (Kp.put (by simp)) fun b hb ys e=>by simp at hb;subst hb;rw[htr]at e;cases e
  generalize upd H tr (.dK (putK R.tries (Sum.inr x:Key) (.int 0)))=H2 at P2 tk
  obtain⟨dx2,ho2⟩:=P2.ob rfl
  have hm:(x,ss) ∈ R.works:=q2q hw
  obtain⟨_,as,hta,L⟩:=P2.tl x ss hm rfl
  have gt:DGet H2 td (.str x) (some (.ref (ta x))):=by
   have:=DGet.k (k:=Sum.inr x) (P2.htd rfl)
   rw[q2p]at this
   rw[show wkF R.works x=some ss from hw]at this
   exact this
  have ha2:=tk _ _ ha
  refine⟨_,rfl,r,C,dx2,_,_,rfl,ho2,T.cl,T.nTrails,q4b ..,_,rfl,td,_,rfl,gt,.inl ⟨rfl,_,SqL.of hta⟩,_,rfl,ta x,_,_,rfl,rfl,hta,?_,?_⟩
  ·rw[List.length_map,L.len]
   exact q0n (by have:=I.ok.st x;show (R.trail x).length≤900;omega)
  obtain⟨P3,tk3⟩:=P2.trailW hm hta L ha2
  refine⟨_,rfl,k _ ⟨?_,tg,dl,wd,td,tr,lo,ps,wa,ta,P3⟩ (tk.trans tk3)⟩
  exact I.ok.written fun ss' hm'=>by rw[← q42 I.ok hm hm'];exact⟨he0,he1⟩
def AnV (H:Hp) (v:V):An→Prop
 | .non=>v= .non
 | .bl b=>v= .bl b
 | .str s=>v= .str s
 | .en e=>∃ a,v= .ref a∧H a=some (.tup (enV e))
theorem AnV.tk {H H':Hp} {v:V} {an:An} (h:AnV H v an) (k:TK H H'):AnV H' v an:=by
 cases an with
 | en e=>obtain⟨a,h1,h2⟩:=h;exact⟨a,h1,k _ _ h2⟩
 | _=>exact h
def q8f (C Cd:Addr):Sp:=fun vs H Q _=>∃ (r c:Addr) (x luck:Str) (undo:Bool) (i:Int) (ss:List Stp) (s:Stp) (H0:Hp) (R:Rn) (n:Nat),vs=[.ref r,.str x,.ref c,.str luck]∧H c=some (.tup [.str (if undo=true then "undo" else "do"),.int i])∧RnAt C Cd H0 H r R n∧R.desks.length≤900∧n≤880 ∧
 R.wk x=some ss∧0≤i∧ss[i.toNat]? = some s∧∀ v H',RnAt C Cd H0 H' r (q0w R x s undo i luck).2 (n + 4)→TK H H'→AnV H' v (optA (q0w R x s undo i luck).1)→Q v H'
theorem q61 (R:Rn) (d:Int) (q:Rq) (luck:Str):(q1d R d q luck).2.works=R.works∧(q1d R d q luck).2.trail=R.trail∧(q1d R d q luck).2.desks.length=R.desks.length:=by
 unfold q1d
 split
 ·exact⟨rfl,rfl,rfl⟩
 ·obtain⟨h1,h2,h3,_⟩:=q16 R d q
  exact⟨h1,h2,h3⟩
theorem q7b (R:Rn) (x:Str) (u:Bool):(q15 R x u).2.works=R.works∧(q15 R x u).2.trail=R.trail∧(q15 R x u).2.desks.length=R.desks.length:=by
 unfold q15
 split <;> exact⟨rfl,rfl,rfl⟩
theorem q6f:FnScope ["self","name","coming","luck","word"] ["self","name","coming","luck"] (q06 q2w):=⟨rfl,rfl,rfl,by decide +kernel,rfl,by decide +kernel,by decide +kernel⟩
theorem qbl {f C Cd:Addr} {fd:FuncData} (Fn:Fun K "attempt" "Runner.attempt" q2w f fd) (T:TxtR K mg C) (DRunner_request_for:Md P w K mg base CX0 C 1 "request_for" ["self","name","coming"] (qjr C Cd)) (DRunner_send:Md P w K mg base CX0 C 6 "send" ["self","sent","luck"] (qgq C Cd))
  (DRunner_unheard:Md P w K mg base CX0 C 1 "unheard" ["self","name","coming"] (q7y C Cd)) (DRunner_written:Md P w K mg base CX0 C 1 "written" ["self","name","entry"] (q7u C Cd)):FnOk P w K mg base CX0 7 f fd ["self","name","coming","luck"] (q8f C Cd):=by
 refine Fn.ok q6f (fun vs H Q E h=> ?_) (fun cdv A outer sh H vs Q E hr h=> ?_)
 ·obtain⟨r,c,x,luck,undo,i,ss,s,H0,R,n,rfl,_⟩:=h
  rfl
 ·obtain⟨r,c,x,luck,undo,i,ss,s,H0,R,n,rfl,hc,I,hz,hn,hw,h0,es,k⟩:=h
  have nd:=q6f.nd
  have ob:∀ {H':Hp} {R':Rn} {m:Nat},RnAt C Cd H0 H' r R' m→∃ dx fs,H' r=some (.ins C dx fs)∧∀ m:Str,(["desks","bound","up","works","trails","tries","lost"]:List Str).all (fun y=>decide (¬ m=y))=true→fs.lookup m=none:=fun J=>by
   obtain⟨tg,dl,wd,td,tr,lo,ps,wa,ta,Pp⟩:=J.ex
   obtain⟨dx,ho⟩:=Pp.ob rfl
   exact⟨dx,_,ho,fun m hm=>q4o hm⟩
  obtain⟨dx,fs,ho,no⟩:=ob I
  have hm:=q2q hw
  have hsd:=I.ok.sd x ss hm s (List.mem_of_getElem? es)
  have hid:inD R s.d=true:=by unfold inD;rw[decide_eq_true hsd.1,decide_eq_true hsd.2];rfl
  have hil:i < ss.length:=by have:=(List.getElem?_eq_some_iff.mp es).1;omega
  obtain⟨t2,h2,key⟩:∃ t2,PSs (cxOf CX0 P w K mg base ["self","name","coming","luck","word"] "Runner.attempt" (q06 q2w) f cdv A outer sh H E).nox ((q0g q2w).drop 2) t2 ∧
    ∀ (ow:Option Str) (H1:Hp) (R1:Rn) (m:Nat),m≤n + 2→RnAt C Cd H0 H1 r R1 m→TK H H1→R1.works=R.works →
     (∀ v H',RnAt C Cd H0 H' r (match ow with | some y=>q1x R1 x (y,i) | none=>R1) (m + 2)→TK H H'→AnV H' v (optA (ow.map fun y=>(y,i)))→Q v H') →
     t2 { nx:=fun _ H'=>Q .non H',rt:=Q } [some (.ref r),some (.str x),some (.ref c),some (.str luck),some (optV ow)] H1:=by
   refine⟨_,(q01 (q0q (q3w (q5q (pv 4)))
   (q07 (q0a q4k))
   q0c)
   (q07 (q0a (q3g DRunner_written (hr.mono (by decide)) q0z (pv 0) (q00 (pv 1) (q00 (q19 (q00 (pv 4) (q00 (q0k q0h (pv 2) q02 (fun _ _=>rfl)) q05))) q05)))))),fun ow H1 R1 m hm1 I1 tk1 ew q=> ?_⟩
   cases ow with
   | none =>
    refine⟨_,rfl,_,rfl,iteD rfl ?_⟩
    exact q .non H1 (I1.mono (by omega)) tk1 rfl
   | some y =>
    refine⟨_,rfl,_,rfl,q14 (by intro z;cases z) ?_⟩
    obtain⟨dx1,fs1,ho1,no1⟩:=ob I1
    refine⟨_,rfl,r,dx1,_,rfl,ho1,no1 _ (by decide +kernel),_,rfl,_,rfl,_,rfl,c,_,_,_,rfl,rfl,SqT.of (tk1 _ _ hc),q08 (j:=1) rfl,(by show 2≤sizeLine;decide),fun a ha=> ?_⟩
    have kp:Kp [] H1 (upd H1 a (.tup (enV (y,i)))):=Kp.new ha
    refine⟨r,a,x,(y,i),ss,H0,R1,m,rfl,q03,I1.same kp,by omega,?_,h0,hil,fun H' I' tk'=> ?_⟩
    ·show wkF R1.works x=some ss
     rw[ew];exact hw
    ·exact q _ H' I' (tk1.trans ((Kp.tk kp (by simp)).trans tk')) ⟨a,rfl,tk' _ _ q03⟩
  refine⟨_,q01 (q0s (i:=4) nd rfl (Or.inl rfl) (q3g DRunner_send (hr.mono (by decide)) q0z (pv 0) (q00 (q3g DRunner_request_for (hr.mono (by decide)) q0z (pv 0) (q00 (pv 1) (q00 (pv 2) q05))) (q00 (pv 3) q05)))) (q01 (q0q (q3w (q5q (pv 4)))
   (q07 (q0s (i:=4) nd rfl (Or.inl rfl) (q3g DRunner_unheard (hr.mono (by decide)) q0z (pv 0) (q00 (pv 1) (q00 (pv 2) q05)))))
   q0c) h2),?_⟩
  refine⟨_,rfl,r,dx,_,rfl,ho,no _ (by decide +kernel),_,rfl,r,dx,_,rfl,ho,no _ (by decide +kernel),_,rfl,_,rfl,r,c,x,_,i,ss,s,H0,R,n,rfl,hc,I,hw,h0,es,fun a H1 ha La kp1=> ?_⟩
  have I1:=I.same kp1
  refine⟨_,rfl,r,a,luck,s.d,_,H0,R,n,rfl,La,I1,hz,by omega,hid,fun H2 I2 tk2=> ?_⟩
  have tk12:TK H H2:=(Kp.tk kp1 (by simp)).trans tk2
  obtain⟨sw,st,sl⟩:=q61 R s.d (reqM x s (if undo=true then "undo" else "do") i) luck
  have ea:q0w R x s undo i luck=match q1d R s.d (reqM x s (if undo=true then "undo" else "do") i) luck with
   | (some w,R1)=>(some (w,i),q1x R1 x (w,i))
   | (none,R1)=>match q15 R1 x undo with
    | (some w,R2)=>(some (w,i),q1x R2 x (w,i))
    | (none,R2)=>(none,R2):=rfl
  rw[ea]at k
  cases e1:q1d R s.d (reqM x s (if undo=true then "undo" else "do") i) luck with
  | mk ow R1 =>
   rw[e1]at I2 sw st sl k
   dsimp only at I2 sw st sl
   cases ow with
   | some y =>
    refine⟨_,rfl,_,rfl,q14 (by intro z;cases z) ?_⟩
    exact key (some y) H2 R1 (n + 1) (by omega) I2 tk12 sw fun v H' I' tk' an=>k v H' (I'.mono (by omega)) tk' an
   | none =>
    refine⟨_,rfl,_,rfl,iteD rfl ?_⟩
    obtain⟨dx2,fs2,ho2,no2⟩:=ob I2
    refine⟨_,rfl,r,dx2,_,rfl,ho2,no2 _ (by decide +kernel),_,rfl,_,rfl,r,c,x,undo,i,H0,R1,n + 1,rfl,tk12 _ _ hc,I2,by omega,fun H3 I3 tk3=> ?_⟩
    obtain⟨uw,ut,ul⟩:=q7b R1 x undo
    dsimp only at k
    cases e2:q15 R1 x undo with
    | mk ow2 R2 =>
     rw[e2]at I3 uw ut ul k
     dsimp only at I3 uw ut ul
     refine key ow2 H3 R2 (n + 2) (by omega) I3 (tk12.trans tk3) (uw.trans sw) fun v H' I' tk' an=> ?_
     cases ow2 with
     | some y=>exact k v H' (I'.mono (by omega)) tk' an
     | none=>exact k v H' (I'.mono (by omega)) tk' an
end
end K07
end
section
namespace K07
open PySem L2
def exWT:Tg→Bool
 | .works=>true
 | .trails=>true
 | _=>false
theorem q6u (ws:List (Str×List Stp)) (f:Str→Addr) {x:Str} (ss:List Stp) (a:Addr) (h:wkF ws x=none):putK (wkT ws f) (Sum.inr x:Key) (.ref a)=wkT (ws ++ [(x,ss)]) fun y=>if y=x then a else f y:=by
 rw[qa2 _ (by rw[q2p,h];rfl)]
 unfold wkT
 rw[List.map_append,List.map_cons,List.map_nil]
 dsimp only
 rw[if_pos rfl]
 congr 1
 refine List.map_congr_left fun w hw=> ?_
 rw[if_neg (q2x h w hw)]
section
variable {P:Program} {w:World} {K:PySem.W.Frag} {mg:Str→Option Value} {base:Heap}
def goNo (R:Rn) (x:Str):Bool:=R.up && (R.wk x).isNone
def spGo (C Cd CW:Addr):Sp:=fun vs H Q E=>∃ (r:Addr) (x luck:Str) (H0:Hp) (R:Rn) (n:Nat),vs=[.ref r,.str x,.str luck]∧RnAt C Cd H0 H r R n∧R.desks.length≤900∧n≤880 ∧
 (goNo R x=false→∀ v H',RnAt C Cd H0 H' r (goM R x luck).2 (n + 4)→TK H H'→AnV H' v (goM R x luck).1→Q v H')∧(goNo R x=true→E (.ref CW) none H)
theorem qlb:FnScope ["self","name","luck","coming"] ["self","name","luck"] (q06 rGo):=⟨rfl,rfl,rfl,by decide +kernel,rfl,by decide +kernel,by decide +kernel⟩
theorem qlz {f C Cd C_NoWork:Addr} {fd:FuncData} (Fn:Fun K "go" "Runner.go" rGo f fd) (T:TxtR K mg C) (B:Blt mg) (Dnext_of:Df P w K mg base CX0 3 "next_of" ["many","trail"] spNx) (DRunner_attempt:Md P w K mg base CX0 C 7 "attempt" ["self","name","coming","luck"] (q8f C Cd))
  (g_NoWork:mg "NoWork" = some (.ref C_NoWork)) (q_NoWork:PySem.W.excIn K C_NoWork [.type "ValueError",.type "Exception",.type "BaseException",.type "object"] "ValueError.__new__" = true):FnOk P w K mg base (CX1 P w) 8 f fd ["self","name","luck"] (spGo C Cd C_NoWork):=by
 refine Fn.okX qlb (fun vs H Q E h=> ?_) (fun cdv A outer s H vs Q E hr h=> ?_)
 ·obtain⟨r,x,luck,H0,R,n,rfl,_⟩:=h
  rfl
 ·obtain⟨r,x,luck,H0,R,n,rfl,I,hz,hn,k1,k2⟩:=h
  have nd:=qlb.nd
  have hu:=q3f hr
  have fx:=q3x (CX:=CX1 P w) (P:=P) (w:=w) (K:=K) (mg:=mg) (base:=base) (N:=["self","name","luck","coming"]) (qual:= "Runner.go") (scope:=q06 rGo) (f:=f) (cd:=cdv) (A:=A) (outer:=outer) (s:=s) (H:=H) (E:=E)
  obtain⟨tg,dl,wd,td,tr,lo,ps,wa,ta,Pp⟩:=I.ex
  obtain⟨dx,ho⟩:=Pp.ob rfl
  unfold goNo at k1 k2
  refine⟨_,(q1f (q31 (q0q (q1g (q17 (q1a (pv 0) rfl)))
   (q07 (q0a q09))
   q0c))
   (q1f (q82 (q3w (q5k hu (pv 1) (q1a (pv 0) rfl)))
   (q1v (q7r fx rfl g_NoWork q_NoWork PySem.F.excBase_ValueError (q00 q09 q05)))
   (q5d q0c))
   (q1f (q31 (q0s (i:=3) nd rfl (Or.inl rfl) (q18 Dnext_of (hr.mono (by decide)) q0z (q00 (q0e q0m rfl B.len PySem.boot_len (q00 (q0u hu (q1a (pv 0) rfl) (pv 1) (fun _ _=>rfl)) q05)) (q00 (q0u hu (q1a (pv 0) rfl) (pv 1) (fun _ _=>rfl)) q05)))))
   (q1f (q31 (q0q (q0f q1i (q0k q0h (pv 3) q02 (fun _ _=>rfl)) q09 (q0i _))
   (q07 (q0a q09))
   q0c))
   (q1v (q31 (q0a (q3g DRunner_attempt (hr.mono (by decide)) q0z (pv 0) (q00 (pv 1) (q00 (pv 3) (q00 (pv 2) q05))))))))))),?_⟩
  refine⟨_,rfl,r,C,dx,_,_,rfl,ho,T.cl,T.nUp,qig ..,_,rfl,?_⟩
  cases eu:R.up with
  | false =>
   refine iteT ?_
   rw[eu]at k1
   have:=k1 rfl (.str "stopped") H
   unfold goM at this
   rw[if_pos eu]at this
   exact this (I.mono (by omega)) (TK.refl H) rfl
  | true =>
   refine iteF ?_
   rw[eu,Bool.true_and]at k1 k2
   have gw:=DGet.k (k:=Sum.inr x) (Pp.hwd rfl)
   rw[q2p]at gw
   refine⟨_,rfl,_,rfl,r,C,dx,_,_,rfl,ho,T.cl,T.nWorks,q49 ..,wd,_,rfl,gw,_,rfl,?_⟩
   cases ew:R.wk x with
   | none =>
    rw[show wkF R.works x=none from ew]
    refine iteT ⟨(by show 1≤sizeLine;decide),?_⟩
    exact k2 (by rw[ew];rfl)
   | some ss =>
    have k1:=k1 (by rw[ew];rfl)
    have ew':wkF R.works x=some ss:=ew
    rw[ew']at gw ⊢
    refine iteF ?_
    have hm:=q2q ew'
    obtain⟨_,as,hwa,S⟩:=Pp.wk x ss hm rfl
    obtain⟨_,at',hta,L⟩:=Pp.tl x ss hm rfl
    have gt:=DGet.k (k:=Sum.inr x) (Pp.htd rfl)
    rw[q2p,ew']at gt
    have el:(((as.map V.ref).length:Nat):Int)=(ss.length:Int):=by rw[List.length_map,S.len]
    refine⟨_,rfl,r,C,dx,_,_,rfl,ho,T.cl,T.nWorks,q49 ..,_,rfl,wd,_,rfl,gw,wa x,_,rfl,.inl (SqL.of hwa),_,rfl,r,C,dx,_,_,rfl,ho,T.cl,T.nTrails,q4b ..,_,rfl,td,_,rfl,gt,?_⟩
    rw[el]
    refine⟨_,ta x,at',R.trail x,rfl,⟨hta,L⟩,fun c H1 hc hc1 kp1=> ?_⟩
    have I1:=I.same kp1
    have tk1:TK H H1:=Kp.tk kp1 (by simp)
    have eg:goM R x luck=match nxOf ss.length (R.trail x) with
     | .dO i=>match ss[i.toNat]? with
      | some s=>(optA (q0w R x s false i luck).1,(q0w R x s false i luck).2)
      | none=>(.non,R)
     | .un i=>match ss[i.toNat]? with
      | some s=>(optA (q0w R x s true i luck).1,(q0w R x s true i luck).2)
      | none=>(.non,R)
     | _=>(.str "ended",R):=by
     unfold goM
     rw[if_neg (by rw[eu];simp),ew] <;> rfl
    rw[eg]at k1
    have ob1:∃ dx fs,H1 r=some (.ins C dx fs)∧∀ m:Str,(["desks","bound","up","works","trails","tries","lost"]:List Str).all (fun y=>decide (¬ m=y))=true→fs.lookup m=none:=⟨dx,_,kp1.get ho nEm,fun m hm=>q4o hm⟩
    obtain⟨dx1,fs1,ho1,no1⟩:=ob1
    cases en:nxOf ss.length (R.trail x) with
    | dn =>
     rw[en]at hc1 k1
     refine⟨_,rfl,c,_,_,_,rfl,rfl,SqT.of hc1,q08 (j:=0) rfl,rfl,_,rfl,iteD rfl ?_⟩
     exact k1 _ H1 (I1.mono (by omega)) tk1 rfl
    | ud =>
     rw[en]at hc1 k1
     refine⟨_,rfl,c,_,_,_,rfl,rfl,SqT.of hc1,q08 (j:=0) rfl,rfl,_,rfl,iteD rfl ?_⟩
     exact k1 _ H1 (I1.mono (by omega)) tk1 rfl
    | dO i =>
     have hi:=I.ok.next hm (.inl en)
     rw[en]at hc1 k1
     have hil:i.toNat < ss.length:=by omega
     have es:ss[i.toNat]? = some ss[i.toNat]:=List.getElem?_eq_getElem hil
     dsimp only at k1
     rw[es]at k1
     refine⟨_,rfl,c,_,_,_,rfl,rfl,SqT.of hc1,q08 (j:=0) rfl,rfl,_,rfl,q14 (by intro z;exact absurd (V.str.inj z) (by decide +kernel)) ?_⟩
     refine⟨_,rfl,r,dx1,_,rfl,ho1,no1 _ (by decide +kernel),_,rfl,_,rfl,_,rfl,r,c,x,luck,false,i,ss,_,H0,R,n,rfl,hc1,I1,hz,hn,ew,hi.1,es,fun v H' I' tk' an=> ?_⟩
     exact k1 v H' I' (tk1.trans tk') an
    | un i =>
     have hi:=I.ok.next hm (.inr en)
     rw[en]at hc1 k1
     have hil:i.toNat < ss.length:=by omega
     have es:ss[i.toNat]? = some ss[i.toNat]:=List.getElem?_eq_getElem hil
     dsimp only at k1
     rw[es]at k1
     refine⟨_,rfl,c,_,_,_,rfl,rfl,SqT.of hc1,q08 (j:=0) rfl,rfl,_,rfl,q14 (by intro z;exact absurd (V.str.inj z) (by decide +kernel)) ?_⟩
     refine⟨_,rfl,r,dx1,_,rfl,ho1,no1 _ (by decide +kernel),_,rfl,_,rfl,_,rfl,r,c,x,luck,true,i,ss,_,H0,R,n,rfl,hc1,I1,hz,hn,ew,hi.1,es,fun v H' I' tk' an=> ?_⟩
     exact k1 v H' I' (tk1.trans tk') an
def qgz (C Cd:Addr):Sp:=fun vs H Q _=>∃ (r:Addr) (i:Int) (H0:Hp) (R:Rn) (n:Nat),vs=[.ref r,.int i]∧RnAt C Cd H0 H r R n∧R.desks.length≤900∧n≤880∧∀ v H',RnAt C Cd H0 H' r (q2l R i).2 (n + 1)→TK H H'→AnV H' v (q2l R i).1→Q v H'
theorem qcx:FnScope ["self","which"] ["self","which"] (q06 qb0):=⟨rfl,rfl,rfl,by decide +kernel,rfl,by decide +kernel,by decide +kernel⟩
theorem qi2 {f C Cd:Addr} {fd:FuncData} (Fn:Fun K "late" "Runner.late" qb0 f fd) (T:TxtR K mg C) (B:Blt mg) (DRunner_arrive:Md P w K mg base CX0 C 5 "arrive" ["self","sent"] (q7f C Cd)):FnOk P w K mg base CX0 6 f fd ["self","which"] (qgz C Cd):=by
 refine Fn.ok qcx (fun vs H Q E h=> ?_) (fun cdv A outer s H vs Q E hr h=> ?_)
 ·obtain⟨r,i,H0,R,n,rfl,_⟩:=h
  rfl
 ·obtain⟨r,i,H0,R,n,rfl,I,hz,hn,k⟩:=h
  have nd:=qcx.nd
  obtain⟨tg,dl,wd,td,tr,lo,ps,wa,ta,Pp⟩:=I.ex
  obtain⟨dx,ho⟩:=Pp.ob rfl
  obtain⟨al,hl,L⟩:=Pp.hlo rfl
  refine⟨_,(q01 (q0q (PW.pt (q2u (q0f q5n (pv 1) q02 (q0i _)) (q23 (q0f q72 (pv 1) (q0e q0m rfl B.len PySem.boot_len (q00 (q1a (pv 0) rfl) q05)) (q0i _)))))
   (q07 (q0a q4k))
   q0c)
   (q07 (q0a (q3g DRunner_arrive (hr.mono (by decide)) q0z (pv 0) (q00 (q0k q13 (q1a (pv 0) rfl) (pv 1) (fun _ _=>rfl)) q05))))),?_⟩
  unfold q2l at k
  refine⟨_,rfl,_,_,rfl,rfl,_,rfl,?_⟩
  by_cases h0:i < 0
  ·rw[if_pos h0]at k
   exact iteD h0 (iteT (k .non H (I.mono (by omega)) (TK.refl H) rfl))
  rw[if_neg h0]at k
  refine q14 h0 ?_
  refine⟨_,rfl,_,rfl,r,C,dx,_,_,rfl,ho,T.cl,T.nLost,q6z ..,lo,_,rfl,.inl (SqL.of hl),_,_,rfl,rfl,_,rfl,?_⟩
  rw[List.length_map,L.len]
  by_cases h1:(R.lost.length:Int)≤i
  ·refine iteD h1 ?_
   rw[List.getElem?_eq_none_iff.mpr (by omega)]at k
   exact k .non H (I.mono (by omega)) (TK.refl H) rfl
  refine q14 h1 ?_
  obtain⟨j,rfl⟩:∃ j:Nat,i=(j:Int):=⟨i.toNat,by omega⟩
  have hj:j < R.lost.length:=by omega
  have hja:j < al.length:=by rw[L.len];exact hj
  have ej:R.lost[j]? = some R.lost[j]:=List.getElem?_eq_getElem hj
  have ea:al[j]? = some al[j]:=List.getElem?_eq_getElem hja
  rw[Int.toNat_natCast,ej]at k
  have La:=L.at_ j _ _ ea ej
  have hd:=I.ok.ld _ (List.getElem_mem hj)
  generalize R.lost[j]=q at k La hd
  obtain⟨d,q⟩:=q
  have hid:inD R d=true:=by unfold inD;rw[decide_eq_true hd.1,decide_eq_true hd.2];rfl
  refine⟨_,rfl,r,dx,_,rfl,ho,q4o (by decide +kernel),_,rfl,r,C,dx,_,_,rfl,ho,T.cl,T.nLost,q6z ..,_,rfl,lo,_,_,_,rfl,rfl,SqL.of hl,q08 (j:=j) (v:= .ref al[j]) (by rw[List.getElem?_map,ea];rfl),
   r,al[j],d,q,H0,R,n,rfl,La,I,hz,by omega,hid,fun H' I' tk=> ?_⟩
  exact k _ H' I' tk rfl
def qhd (C Cd CN:Addr):Sp:=fun vs H Q E=>∃ (r:Addr) (d:Int) (x:Str) (m:Int) (H0:Hp) (R:Rn) (n:Nat),vs=[.ref r,.int d,.str x,.int m]∧RnAt C Cd H0 H r R n∧R.desks.length≤900∧n≤880 ∧
 (inD R d=true→∀ H',RnAt C Cd H0 H' r (q28 R d x m).2 (n + 1)→TK H H'→Q (.bl true) H')∧(inD R d=false→E (.ref CN) none H)
theorem qcm:FnScope ["self","number","thing","many"] ["self","number","thing","many"] (q06 q96):=⟨rfl,rfl,rfl,by decide +kernel,rfl,by decide +kernel,by decide +kernel⟩
theorem qip {f C Cd CN:Addr} {fd:FuncData} (Fn:Fun K "fill" "Runner.fill" q96 f fd) (DRunner_desk_at:Md P w K mg base (CX1 P w) C 1 "desk_at" ["self","number"] (q56 C Cd CN)) (DDesk_put:Md P w K mg base CX0 Cd 2 "put" ["self","thing","many"] (qid Cd)) :
  FnOk P w K mg base (CX1 P w) 3 f fd ["self","number","thing","many"] (qhd C Cd CN):=by
 refine Fn.okX qcm (fun vs H Q E h=> ?_) (fun cdv A outer s H vs Q E hr h=> ?_)
 ·obtain⟨r,d,x,m,H0,R,n,rfl,_⟩:=h
  rfl
 ·obtain⟨r,d,x,m,H0,R,n,rfl,I,hz,hn,k1,k2⟩:=h
  have nd:=qcm.nd
  have fx:=q3x (CX:=CX1 P w) (P:=P) (w:=w) (K:=K) (mg:=mg) (base:=base) (N:=["self","number","thing","many"]) (qual:= "Runner.fill") (scope:=q06 q96) (f:=f) (cd:=cdv) (A:=A) (outer:=outer) (s:=s) (H:=H) (E:=E)
  obtain⟨tg,dl,wd,td,tr,lo,ps,wa,ta,Pp⟩:=I.ex
  obtain⟨dx,ho⟩:=Pp.ob rfl
  refine⟨_,(q1f (q81 (qhu fx DDesk_put (hr.mono (by decide)) (q8g fx DRunner_desk_at (hr.mono (by decide)) (pv 0) (q00 (pv 1) q05)) (q00 (pv 2) (q00 (pv 3) q05))))
   (q1v (q31 (q0a q1k)))),?_⟩
  refine⟨_,rfl,r,dx,_,rfl,ho,q4o (by decide +kernel),_,rfl,r,d,H0,R,n,rfl,I,hz,fun hd p Dk=> ?_,fun hd=>k2 hd⟩
  clear Pp ho
  obtain⟨tg,dl,wd,td,tr,lo,ps,wa,ta,Pp,ep⟩:=Dk
  obtain⟨i,rfl,T,F,eT⟩:=qc9 hd
  rw[Int.toNat_natCast]at ep
  obtain⟨tp,s,dd,D,ts,td'⟩:=Pp.dk i p T F ep eT rfl rfl rfl
  obtain⟨dy,hp⟩:=D.ob
  have okT:=I.ok.ok T F (List.mem_of_getElem? eT)
  refine⟨p,dy,_,rfl,hp,q40 _ _ (by decide +kernel) (by decide +kernel),_,rfl,_,rfl,p,s,dd,T,F,x,m,rfl,D,okT.i,by have:=okT.lt;omega,?_⟩
  have ef:q28 R i x m=(.bl true,setD R i (putK T (Sum.inr x:Key) (.int (getI T x + m)),F)):=by unfold q28;rw[if_pos hd,Int.toNat_natCast,eT]
  have k1:=k1 hd
  rw[ef]at k1
  have kp:Kp [s,dd] H (upd H s (.dK (putK T (Sum.inr x:Key) (.int (getI T x + m))))):=Kp.put (by simp)
  refine k1 _ ⟨I.ok.setD ⟨okT.i.put _ _,okT.f,by have:=okT.lt;have:=q0o T (Sum.inr x:Key) (V.int (getI T x + m));omega,by have:=okT.lf;omega⟩,tg,dl,wd,td,tr,lo,ps,wa,ta,Pp.deskW ep tp D ts td' D.putS kp⟩ (Kp.tk kp fun c hc ys e=> ?_)
  simp at hc
  rcases hc with z | z
  ·rw[z,D.st]at e;cases e
  ·rw[z,D.ft]at e;cases e
theorem qdx {dl wd td tr lo:Addr} {b:Int} {u:Bool}:(q2k dl b u wd td tr lo).length < 1000:=by rw[fR];show (7:Nat) < 1000;decide
def qai (C Cd:Addr) (de:Deed):Sp:=fun vs H Q _=>∃ (r:Addr) (H0:Hp) (R:Rn) (n:Nat),vs=[.ref r]∧RnAt C Cd H0 H r R n∧∀ v H',RnAt C Cd H0 H' r (q1j R de).2 n→TK H H'→AnV H' v (q1j R de).1→Q v H'
theorem qdy:FnScope ["self"] ["self"] (q06 qbe):=⟨rfl,rfl,rfl,by decide +kernel,rfl,by decide +kernel,by decide +kernel⟩
theorem qhp {f C Cd:Addr} {fd:FuncData} (Fn:Fun K "stop" "Runner.stop" qbe f fd) (T:TxtR K mg C):FnOk P w K mg base CX0 1 f fd ["self"] (qai C Cd .stop):=by
 refine Fn.ok qdy (fun vs H Q E h=> ?_) (fun cdv A outer s H vs Q E hr h=> ?_)
 ·obtain⟨r,H0,R,n,rfl,_⟩:=h
  rfl
 ·obtain⟨r,H0,R,n,rfl,I,k⟩:=h
  have nd:=qdy.nd
  obtain⟨tg,dl,wd,td,tr,lo,ps,wa,ta,Pp⟩:=I.ex
  obtain⟨dx,ho⟩:=Pp.ob rfl
  unfold q1j at k
  refine⟨_,(q01 (q0q (q1g (q17 (q1a (pv 0) rfl)))
   (q07 (q0a q1k))
   q0c)
   (q01 (q39 (pv 0) q1k rfl)
   (q01 (q39 (pv 0) q2y rfl)
   (q07 (q0a q1k))))),?_⟩
  refine⟨_,rfl,r,C,dx,_,_,rfl,ho,T.cl,T.nUp,qig ..,_,rfl,?_⟩
  cases eu:R.up with
  | false =>
   refine iteT ?_
   dsimp only at k
   rw[if_neg (by rw[eu];simp)]at k
   exact k _ H I (TK.refl H) rfl
  | true =>
   refine iteF ?_
   dsimp only at k
   rw[if_pos eu]at k
   have htr:=Pp.htr rfl
   have nrt:tr ≠ r:=fun z=>by rw[z,ho]at htr;cases htr
   refine⟨_,rfl,r,C,dx,_,rfl,ho,T.cl,T.nUp,qdx,?_⟩
   rw[q9u]
   obtain⟨P1,tk1⟩:=Pp.runW (dl':=dl) (wd':=wd) (dx:=dx) (u:=false) (tr':=tr) (T':=R.tries) (by rw[q0b nrt];exact htr) Pp.ttr
   have ho1:(upd H r (.ins C dx (q2k dl R.bound false wd td tr lo))) r=some (.ins C dx (q2k dl R.bound false wd td tr lo)):=q03
   generalize upd H r (.ins C dx (q2k dl R.bound false wd td tr lo))=H1 at P1 tk1 ho1
   refine fun t ht=>⟨_,rfl,r,C,dx,_,rfl,(Kp.new (ex:=[]) ht).get ho1 nEm,T.cl,T.nTries,qdx,?_⟩
   rw[q90]
   have P2:=P1.retag (ex:=exN) (tg':=fun b=>if b=t then .tries else tg b) (Kp.new (o:= .dK []) ht) fun b hb=>if_neg fun z=>hb (by rw[z];exact ht)
   have ntr:t ≠ r:=fun z=>by rw[z,ho1]at ht;cases ht
   obtain⟨P3,tk3⟩:=P2.runW (dl':=dl) (wd':=wd) (dx:=dx) (u:=false) (tr':=t) (T':=[]) (by rw[q0b ntr,q03]) (if_pos rfl)
   refine k _ _ ⟨?_,_,dl,wd,td,t,lo,ps,wa,ta,P3⟩ ((tk1.trans (Kp.tk (xs:=[]) (Kp.new ht) (by simp))).trans tk3) rfl
   exact I.ok.calm false [] (fun k v e=>by cases e) (Nat.zero_le _)
theorem qd4:FnScope ["self"] ["self"] (q06 qbt):=⟨rfl,rfl,rfl,by decide +kernel,rfl,by decide +kernel,by decide +kernel⟩
theorem qim {f C Cd:Addr} {fd:FuncData} (Fn:Fun K "wake" "Runner.wake" qbt f fd) (T:TxtR K mg C):FnOk P w K mg base CX0 1 f fd ["self"] (qai C Cd .wake):=by
 refine Fn.ok qd4 (fun vs H Q E h=> ?_) (fun cdv A outer s H vs Q E hr h=> ?_)
 ·obtain⟨r,H0,R,n,rfl,_⟩:=h
  rfl
 ·obtain⟨r,H0,R,n,rfl,I,k⟩:=h
  have nd:=qd4.nd
  obtain⟨tg,dl,wd,td,tr,lo,ps,wa,ta,Pp⟩:=I.ex
  obtain⟨dx,ho⟩:=Pp.ob rfl
  unfold q1j at k
  refine⟨_,(q01 (q0q (q17 (q1a (pv 0) rfl))
   (q07 (q0a q1k))
   q0c)
   (q01 (q39 (pv 0) q1k rfl)
   (q07 (q0a q1k)))),?_⟩
  refine⟨_,rfl,r,C,dx,_,_,rfl,ho,T.cl,T.nUp,qig ..,_,rfl,?_⟩
  cases eu:R.up with
  | true =>
   refine iteT ?_
   dsimp only at k
   rw[if_pos eu]at k
   exact k _ H I (TK.refl H) rfl
  | false =>
   refine iteF ?_
   dsimp only at k
   rw[if_neg (by rw[eu];simp)]at k
   have htr:=Pp.htr rfl
   have nrt:tr ≠ r:=fun z=>by rw[z,ho]at htr;cases htr
   refine⟨_,rfl,r,C,dx,_,rfl,ho,T.cl,T.nUp,qdx,?_⟩
   rw[q9u]
   obtain⟨P1,tk1⟩:=Pp.runW (dl':=dl) (wd':=wd) (dx:=dx) (u:=true) (tr':=tr) (T':=R.tries) (by rw[q0b nrt];exact htr) Pp.ttr
   exact k _ _ ⟨I.ok.calm true R.tries I.ok.it I.ok.lt,tg,dl,wd,td,tr,lo,ps,wa,ta,P1⟩ tk1 rfl
def qdf (C Cd CN:Addr):Sp:=fun vs H Q E=>∃ (r l:Addr) (x:Str) (as:List Addr) (ss:List Stp) (H0:Hp) (R:Rn) (n:Nat),vs=[.ref r,.str x,.ref l]∧H l=some (.lst (as.map V.ref))∧Stps H as ss∧ss.length≤900∧RnAt C Cd H0 H r R n∧R.desks.length≤900∧n≤880 ∧
 ((ss.all fun s=>inD R s.d)=true→∀ v H',RnAt C Cd H0 H' r (q2m R x ss).2 (n + 1)→TK H H'→AnV H' v (q2m R x ss).1→Q v H')∧((ss.all fun s=>inD R s.d)=false→E (.ref CN) none H)
theorem q9r:FnScope ["self","name","steps","step"] ["self","name","steps"] (q06 q5u):=⟨rfl,rfl,rfl,by decide +kernel,rfl,by decide +kernel,by decide +kernel⟩
theorem qfz {f C Cd CN:Addr} {fd:FuncData} (Fn:Fun K "start" "Runner.start" q5u f fd) (T:TxtR K mg C) (B:Blt mg) (DRunner_desk_at:Md P w K mg base (CX1 P w) C 1 "desk_at" ["self","number"] (q56 C Cd CN)):FnOk P w K mg base (CX1 P w) 2 f fd ["self","name","steps"] (qdf C Cd CN):=by
 refine Fn.okX q9r (fun vs H Q E h=> ?_) (fun cdv A outer s H vs Q E hr h=> ?_)
 ·obtain⟨r,l,x,as,ss,H0,R,n,rfl,_⟩:=h
  rfl
 ·obtain⟨r,l,x,as,ss,H0,R,n,rfl,hl,S,hs,I,hz,hn,k1,k2⟩:=h
  have nd:=q9r.nd
  have hu:=q3f hr
  have fx:=q3x (CX:=CX1 P w) (P:=P) (w:=w) (K:=K) (mg:=mg) (base:=base) (N:=["self","name","steps","step"]) (qual:= "Runner.start") (scope:=q06 q5u) (f:=f) (cd:=cdv) (A:=A) (outer:=outer) (s:=s) (H:=H) (E:=E)
  obtain⟨tg,dl,wd,td,tr,lo,ps,wa,ta,Pp⟩:=I.ex
  obtain⟨dx,ho⟩:=Pp.ob rfl
  refine⟨_,(q1f (qjh fx rfl (q1l (pv 2)) (q0x (i:=3) nd rfl (Or.inl rfl))
   (q1v (q81 (q8g fx DRunner_desk_at (hr.mono (by decide)) (pv 0) (q00 (q0k q0h (pv 3) q02 (fun _ _=>rfl)) q05)))))
   (q1f (q31 (q0q (q3w (qgn hu (pv 1) (q1a (pv 0) rfl)))
   (q07 (q0a q1k))
   q0c))
   (q1f (q31 (q1e hu (q1a (pv 0) rfl) (pv 1) (q2b q50 rfl B.list_ PyProof.Rows.boot_list (q00 (pv 2) q05)) rfl))
   (q1f (q31 (q1e hu (q1a (pv 0) rfl) (pv 1) (q1t q05) rfl))
   (q1v (q31 (q0a q1k))))))),?_⟩
  refine⟨_,rfl,l,rfl,⟨_,SqL.of hl⟩,?_⟩
  refine qdn (K:=K) (a:=l) (xs:=as.map V.ref) (fun i σ H2=>∃ v,σ=[some (.ref r),some (.str x),some (.ref l),v]∧H2=H∧∀ s ∈ ss.take i,inD R s.d=true) ⟨none,rfl,rfl,by simp⟩ (fun i σ H2 _ ⟨_,_,e,_⟩=>by rw[e];exact SqL.of hl) ?_ ?_
  ·rintro i v σ H2 hx ⟨v3,rfl,rfl,hall⟩
   rw[List.getElem?_map]at hx
   cases ea:as[i]? with
   | none=>rw[ea]at hx;cases hx
   | some a =>
    rw[ea]at hx
    obtain rfl:V.ref a=v:=Option.some.inj hx
    have hi:i < ss.length:=by rw[← S.len];exact(List.getElem?_eq_some_iff.mp ea).1
    have es:ss[i]? = some ss[i]:=List.getElem?_eq_getElem hi
    have ha:=S.at_ i a _ ea es
    refine⟨_,rfl,r,dx,_,rfl,ho,q4o (by decide +kernel),_,rfl,a,_,_,_,rfl,rfl,SqT.of ha,q08 (j:=0) rfl,r,_,H0,R,n,rfl,I,hz,fun hd p _=> ?_,fun hd=> ?_⟩
    ·refine⟨_,rfl,rfl,fun s hs=> ?_⟩
     rw[List.take_add_one,es]at hs
     rcases List.mem_append.mp hs with z | z
     ·exact hall s z
     ·simp at z;rw[z];exact hd
    ·refine k2 ?_
     cases q:ss.all fun s=>inD R s.d with
     | false=>rfl
     | true =>
      have:=List.all_eq_true.mp q _ (List.getElem_mem hi)
      rw[hd]at this
      cases this
  rintro σ H2 ⟨v3,rfl,rfl,hall⟩
  rw[List.length_map,S.len,List.take_length]at hall
  have hA:(ss.all fun s=>inD R s.d)=true:=List.all_eq_true.mpr hall
  have k1:=k1 hA
  unfold q2m at k1
  rw[if_pos hA]at k1
  have hwd:=Pp.hwd rfl
  have htd:=Pp.htd rfl
  have gw:=DGet.k (k:=Sum.inr x) hwd
  rw[q2p]at gw
  refine⟨_,rfl,_,rfl,r,C,dx,_,_,rfl,ho,T.cl,T.nWorks,q49 ..,wd,_,rfl,gw,_,rfl,?_⟩
  cases ew:R.wk x with
  | some ss' =>
   rw[show wkF R.works x=some ss' from ew]
   rw[ew]at k1
   exact iteT (k1 _ H2 (I.mono (by omega)) (TK.refl _) rfl)
  | none =>
   have ew':wkF R.works x=none:=ew
   rw[ew']
   rw[ew]at k1
   refine iteF ?_
   have hsw:=I.ok.sw
   have lw:(wkT R.works wa).length < sizeLine:=by unfold wkT;rw[List.length_map];exact q0n (by omega)
   have lt':(wkT R.works ta).length < sizeLine:=by unfold wkT;rw[List.length_map];exact q0n (by omega)
   refine⟨_,rfl,l,_,rfl,.inl (SqL.of hl),fun lc hlc=> ?_⟩
   have kc:Kp [] H2 (upd H2 lc (.lst (as.map V.ref))):=Kp.new hlc
   refine⟨_,rfl,r,C,dx,_,_,rfl,kc.get ho nEm,T.cl,T.nWorks,q49 ..,_,rfl,wd,_,rfl,DPut.k (k:=Sum.inr x) (kc.get hwd nEm) lw,?_⟩
   have nwr:wd ≠ r:=fun z=>by rw[z,ho]at hwd;cases hwd
   have nwt:td ≠ wd:=fun z=>by
    have h1:=Pp.twd
    have h2:=Pp.ttd
    rw[z,h1]at h2
    cases h2
   have ntr:td ≠ r:=fun z=>by rw[z,ho]at htd;cases htd
   refine⟨(by show 0≤sizeLine;decide),fun lt hlt=> ?_⟩
   obtain⟨nlw,hlt1⟩:=q1u hlt
   obtain⟨nlc,hlt2⟩:=q1u hlt1
   have nll:lc ≠ l:=fun z=>by rw[z,hl]at hlc;cases hlc
   have nwc:wd ≠ lc:=fun z=>by rw[z,hlc]at hwd;cases hwd
   have ntc:td ≠ lc:=fun z=>by rw[z,hlc]at htd;cases htd
   have ntl:td ≠ lt:=fun z=>by rw[z,hlt2]at htd;cases htd
   have nrl:r ≠ lt:=fun z=>by rw[z,hlt2]at ho;cases ho
   have nrc:r ≠ lc:=fun z=>by rw[z,hlc]at ho;cases ho
   have ho4:(upd (upd (upd H2 lc (.lst (as.map V.ref))) wd (.dK (putK (wkT R.works wa) (Sum.inr x:Key) (.ref lc)))) lt (.lst [])) r=some (.ins C dx (q2k dl R.bound R.up wd td tr lo)):=by
    rw[q0b nrl,q0b (Ne.symm nwr),q0b nrc];exact ho
   have htd4:(upd (upd (upd H2 lc (.lst (as.map V.ref))) wd (.dK (putK (wkT R.works wa) (Sum.inr x:Key) (.ref lc)))) lt (.lst [])) td=some (.dK (wkT R.works ta)):=by
    rw[q0b ntl,q0b nwt,q0b ntc];exact htd
   refine⟨_,rfl,r,C,dx,_,_,rfl,ho4,T.cl,T.nTrails,q4b ..,_,rfl,td,_,rfl,DPut.k (k:=Sum.inr x) htd4 lt',?_⟩
   rw[q6u R.works wa ss lc ew',q6u R.works ta ss lt ew']
   generalize hH4:upd (upd (upd (upd H2 lc (.lst (as.map V.ref))) wd (.dK (wkT (R.works ++ [(x,ss)]) fun y=>if y=x then lc else wa y))) lt (.lst [])) td (.dK (wkT (R.works ++ [(x,ss)]) fun y=>if y=x then lt else ta y))=H4
   have kl:Kp [] (upd H2 lc (.lst (as.map V.ref))) (upd (upd H2 lc (.lst (as.map V.ref))) lt (.lst [])):=Kp.new hlt1
   have k4:Kp [wd,td] (upd (upd H2 lc (.lst (as.map V.ref))) lt (.lst [])) H4:=fun b o e hb=>by
    simp at hb
    rw[← hH4,q0b hb.2]
    by_cases z:b=lt
    ·subst z;rw[q03]at e ⊢;exact e
    ·rw[q0b z]at e ⊢
     rw[q0b hb.1];exact e
   have P1:=Pp.retag (ex:=exN) (tg':=fun b=>if b=lc then .wk x else if b=lt then .trail x else tg b) (kc.trans kl) fun b hb=>by
    rw[if_neg fun z=>hb (by rw[z];exact hlc),if_neg fun z=>hb (by rw[z];exact hlt2)]
   have Q:=P1.step (ex:=exWT) k4 (by
    intro a ha
    simp at ha
    rcases ha with z | z
    ·rw[z,P1.twd];exact⟨rfl,by simp,fun ys e=>by rw[P1.hwd rfl]at e;cases e⟩
    ·rw[z,P1.ttd];exact⟨rfl,by simp,fun ys e=>by rw[P1.htd rfl]at e;cases e⟩)
   have h4w:H4 wd=some (.dK (wkT (R.works ++ [(x,ss)]) fun y=>if y=x then lc else wa y)):=by rw[← hH4,q0b (Ne.symm nwt),q0b (Ne.symm nlw),q03]
   have h4t:H4 td=some (.dK (wkT (R.works ++ [(x,ss)]) fun y=>if y=x then lt else ta y)):=by rw[← hH4,q03]
   have h4c:H4 lc=some (.lst (as.map V.ref)):=by rw[← hH4,q0b (Ne.symm ntc),q0b (Ne.symm nlc),q0b (Ne.symm nwc),q03]
   have h4l:H4 lt=some (.lst []):=by rw[← hH4,q0b (Ne.symm ntl),q03]
   have tk4:TK H2 H4:=(Kp.tk (kc.trans kl) (by simp)).trans (Kp.tk k4 fun a ha ys e=>by
    simp at ha
    rcases ha with z | z
    ·rw[z,P1.hwd rfl]at e;cases e
    ·rw[z,P1.htd rfl]at e;cases e)
   have cs:∀ {y ss'},(y,ss') ∈ R.works ++ [(x,ss)]→((y,ss') ∈ R.works∧y ≠ x)∨(y=x∧ss'=ss):=fun {y ss'} hm=>by
    rcases List.mem_append.mp hm with q | q
    ·exact .inl ⟨q,q2x ew' _ q⟩
    ·have:=List.mem_singleton.mp q
     cases this
     exact .inr ⟨rfl,rfl⟩
   refine k1 _ H4 ⟨I.ok.start ew (by omega) fun s hs=> ?_,(fun b=>if b=lc then Tg.wk x else if b=lt then Tg.trail x else tg b),dl,wd,td,tr,lo,ps,(fun y=>if y=x then lc else wa y),(fun y=>if y=x then lt else ta y),?_⟩ tk4 rfl
   ·have:=hall s hs
    unfold inD at this
    simp only[Bool.and_eq_true,decide_eq_true_eq]at this
    exact this
   ·refine⟨Q.kp,Q.fr,Q.tr_,fun _=>Q.ob rfl,Q.tdl,fun _=>Q.hdl rfl,Q.len,fun i p T F e1 e2 _ _ _=>Q.dk i p T F e1 e2 rfl rfl rfl,Q.twd,fun _=>h4w,fun y ss' hm _=> ?_,Q.ttd,fun _=>h4t,fun y ss' hm _=> ?_,Q.ttr,fun _=>Q.htr rfl,Q.tlo,fun _=>Q.hlo rfl⟩
    ·rcases cs hm with ⟨q,ny⟩ | ⟨rfl,rfl⟩
     ·have:=Q.wk y ss' q rfl
      simp only[if_neg ny]
      exact this
     ·rw[if_pos rfl]
      exact⟨if_pos rfl,as,h4c,S.tk tk4⟩
    ·rcases cs hm with ⟨q,ny⟩ | ⟨rfl,rfl⟩
     ·have:=Q.tl y ss' q rfl
      simp only[if_neg ny]
      exact this
     ·refine⟨?_,[],?_,?_⟩
      ·simp only[if_true]
       first | exact(if_neg nlc).trans (if_pos rfl) | exact if_neg nlc | (simp[nlc])
      ·simp only[if_true]
       exact h4l
      ·simp only[if_true]
       exact .nil _
end
end K07
end
section
namespace K07
open PySem L2
def q1y (H:Hp) (a:Addr):Deed→Prop
 | .start x ss=>∃ l as,H a=some (.tup [.str "start",.str x,.ref l])∧H l=some (.lst (as.map V.ref))∧Stps H as ss∧ss.length≤900
 | .go x luck=>H a=some (.tup [.str "go",.str x,.str luck])
 | .late i=>H a=some (.tup [.str "late",.int i])
 | .fill d x n=>H a=some (.tup [.str "fill",.int d,.str x,.int n])
 | .stop=>H a=some (.tup [.str "stop"])
 | .wake=>H a=some (.tup [.str "wake"])
theorem q1y.same {H H':Hp} {a:Addr} {d:Deed} (h:q1y H a d) (k:Kp [] H H'):q1y H' a d:=by
 cases d with
 | start x ss=>obtain⟨l,as,h1,h2,h3,h4⟩:=h;exact⟨l,as,k.get h1 nEm,k.get h2 nEm,h3.tk (Kp.tk k (by simp)),h4⟩
 | _=>exact k.get h nEm
structure Deeds (H:Hp) (as:List Addr) (ds:List Deed):Prop where
 len:as.length=ds.length
 at_:∀ (i:Nat) a d,as[i]? = some a→ds[i]? = some d→q1y H a d
theorem Deeds.same {H H':Hp} {as:List Addr} {ds:List Deed} (h:Deeds H as ds) (k:Kp [] H H'):Deeds H' as ds:=⟨h.len,fun i a d e1 e2=>(h.at_ i a d e1 e2).same k⟩
theorem RnOk.addLost1 {R:Rn} {n:Nat} {d:Int} {q:Rq} (h:RnOk R n) (hd:inD R d=true):RnOk { R with lost:=R.lost ++ [(d,q)] } (n + 1):=by
 unfold inD at hd
 simp only[Bool.and_eq_true,decide_eq_true_eq]at hd
 exact h.addLost hd.1 hd.2
theorem qf7 (T:Tb) (k:Key) (v u:V):(putK (putK T k v) k u).length≤T.length + 1:=by
 have h:(putK (putK T k v) k u).length=(putK T k v).length:=by
  have e:valV (putK T k v) k=some v:=by rw[q1w,if_pos rfl]
  unfold putK at e ⊢
  split
  ·rw[if_pos,List.length_map]
   rename_i h
   simp only[List.any_map,List.any_eq_true,decide_eq_true_eq,Function.comp]at h ⊢
   obtain⟨p,hp,e⟩:=h
   refine⟨p,hp,?_⟩
   rw[if_pos e];exact e
  ·rw[if_pos,List.length_map]
   simp
 have:=q0o T k v
 omega
theorem RnOk.attempt {R:Rn} {n:Nat} {x:Str} {ss:List Stp} {s:Stp} {u:Bool} {i:Int} {luck:Str} (h:RnOk R n) (hm:(x,ss) ∈ R.works) (hd:inD R s.d=true) (h0:0≤i) (h1:i < ss.length):RnOk (q0w R x s u i luck).2 (n + 1):=by
 have sent:RnOk (q1d R s.d (reqM x s (if u=true then "undo" else "do") i) luck).2 (n + 1):=by
  unfold q1d
  split
  ·exact h.addLost1 hd
  ·exact h.arrive
 obtain⟨sw,st,sl⟩:=q61 R s.d (reqM x s (if u=true then "undo" else "do") i) luck
 have stt:(q1d R s.d (reqM x s (if u=true then "undo" else "do") i) luck).2.tries=R.tries:=by
  unfold q1d
  split
  ·rfl
  ·exact(q16 R s.d _).2.2.2.1
 unfold q0w
 generalize q1d R s.d (reqM x s (if u=true then "undo" else "do") i) luck=sr at sent sw st sl stt
 obtain⟨ow,R1⟩:=sr
 dsimp only at sent sw st sl stt
 have hm1:(x,ss) ∈ R1.works:=by rw[sw];exact hm
 have wr:∀ (R2:Rn) (e:En),R2={ R1 with tries:=R2.tries }→q1r R2.tries→(putK R2.tries (Sum.inr x:Key) (V.int 0)).length≤n + 1→e.2=i→RnOk (q1x R2 x e) (n + 1):=fun R2 e er ha hl he=>by
  rw[er]
  refine⟨sent.ok,sent.nod,sent.sw,sent.sl,fun y=> ?_,sent.ss,ha.put _ _,hl,sent.sd,sent.ld,fun y ss' hm' z hz=> ?_⟩
  ·show (if y=x then R1.trail x ++ [e] else R1.trail y).length≤n + 1
   rw[st]
   split
   ·have:=h.st x
    simp;omega
   ·have:=h.st y
    omega
  ·have hz':z ∈ (if y=x then R1.trail x ++ [e] else R1.trail y):=hz
   split at hz'
   ·rename_i ey
    subst ey
    rcases List.mem_append.mp hz' with q | q
    ·exact sent.en _ ss' hm' z q
    ·rw[List.mem_singleton.mp q,he,q42 sent hm' hm1]
     exact⟨h0,h1⟩
   ·exact sent.en y ss' hm' z hz'
 have hlt:=h.lt
 cases ow with
 | some w=>exact wr R1 (w,i) rfl sent.it (by rw[stt];have:=q0o R.tries (Sum.inr x:Key) (V.int 0);omega) rfl
 | none =>
  dsimp only
  have ha:=sent.it.put (Sum.inr x:Key) (getI R1.tries x + 1)
  have hl1:(putK R1.tries (Sum.inr x:Key) (V.int (getI R1.tries x + 1))).length≤n + 1:=by
   have:=q0o R1.tries (Sum.inr x:Key) (V.int (getI R1.tries x + 1))
   rw[stt]at this ⊢
   omega
  by_cases hu:u=true
  ·have e:q15 R1 x u=(none,R1):=by unfold q15;rw[if_pos hu]
   rw[e]
   exact sent
  ·by_cases hb:R1.bound≤getI R1.tries x + 1
   ·have e:q15 R1 x u=(some ("unsure" : Str),{ R1 with tries:=putK R1.tries (Sum.inr x:Key) (V.int (getI R1.tries x + 1)) }):=by unfold q15;rw[if_neg hu,if_pos hb]
    rw[e]
    refine wr { R1 with tries:=putK R1.tries (Sum.inr x:Key) (V.int (getI R1.tries x + 1)) } _ rfl ha ?_ rfl
    have:=qf7 R1.tries (Sum.inr x:Key) (V.int (getI R1.tries x + 1)) (V.int 0)
    dsimp only
    rw[stt]at this ⊢
    omega
   ·have e:q15 R1 x u=(none,{ R1 with tries:=putK R1.tries (Sum.inr x:Key) (V.int (getI R1.tries x + 1)) }):=by unfold q15;rw[if_neg hu,if_neg hb]
    rw[e]
    exact⟨sent.ok,sent.nod,sent.sw,sent.sl,sent.st,sent.ss,ha,hl1,sent.sd,sent.ld,sent.en⟩
theorem RnOk.deed {R:Rn} {n:Nat} (h:RnOk R n) (d:Deed) (hs:∀ x ss,d= .start x ss→ss.length≤1000):RnOk (q1j R d).2 (n + 1):=by
 have h':=h.mono (Nat.le_succ n)
 cases d with
 | start x ss =>
  show RnOk (q2m R x ss).2 (n + 1)
  unfold q2m
  split
  ·rename_i ha
   split
   ·exact h'
   ·rename_i hw
    refine h.start hw (hs x ss rfl) fun s hs=> ?_
    have:=List.all_eq_true.mp ha s hs
    unfold inD at this
    simp only[Bool.and_eq_true,decide_eq_true_eq]at this
    exact this
  ·exact h'
 | go x luck =>
  show RnOk (goM R x luck).2 (n + 1)
  unfold goM
  split
  ·exact h'
  ·split
   ·exact h'
   ·rename_i ss hw
    have hm:=q2q hw
    split
    ·rename_i i hi
     split
     ·rename_i s es
      have hn:=h.next hm (.inl hi)
      have hd:=h.sd x ss hm s (List.mem_of_getElem? es)
      exact h.attempt hm (by unfold inD;rw[decide_eq_true hd.1,decide_eq_true hd.2];rfl) hn.1 hn.2
     ·exact h'
    ·rename_i i hi
     split
     ·rename_i s es
      have hn:=h.next hm (.inr hi)
      have hd:=h.sd x ss hm s (List.mem_of_getElem? es)
      exact h.attempt hm (by unfold inD;rw[decide_eq_true hd.1,decide_eq_true hd.2];rfl) hn.1 hn.2
     ·exact h'
    ·exact h'
 | late i =>
  show RnOk (q2l R i).2 (n + 1)
  unfold q2l
  split
  ·exact h'
  ·split
   ·exact h.arrive
   ·exact h'
 | fill d x m =>
  show RnOk (q28 R d x m).2 (n + 1)
  unfold q28
  split
  ·split
   ·rename_i T F e
    have okT:=h.ok T F (List.mem_of_getElem? e)
    exact h.setD ⟨okT.i.put _ _,okT.f,by have:=okT.lt;have:=q0o T (Sum.inr x:Key) (V.int (getI T x + m));omega,by have:=okT.lf;omega⟩
   ·exact h'
  ·exact h'
 | stop =>
  show RnOk (if R.up=true then (An.bl true,{ R with up:=false,tries:=[] }) else (.bl false,R)).2 (n + 1)
  split
  ·exact h'.calm false [] (fun k v e=>by cases e) (Nat.zero_le _)
  ·exact h'
 | wake =>
  show RnOk (if R.up=true then (An.bl false,R) else (.bl true,{ R with up:=true })).2 (n + 1)
  split
  ·exact h'
  ·exact h'.calm true R.tries h'.it h'.lt
theorem qbf (R:Rn) (d:Deed):(q1j R d).2.desks.length=R.desks.length∧(q1j R d).2.bound=R.bound:=by
 have hat:∀ (x:Str) (s:Stp) (u:Bool) (i:Int) (luck:Str),(q0w R x s u i luck).2.desks.length=R.desks.length∧(q0w R x s u i luck).2.bound=R.bound:=fun x s u i luck=>by
  have e1:(q1d R s.d (reqM x s (if u=true then "undo" else "do") i) luck).2.desks.length=R.desks.length∧(q1d R s.d (reqM x s (if u=true then "undo" else "do") i) luck).2.bound=R.bound:=by
   unfold q1d
   split
   ·exact⟨rfl,rfl⟩
   ·exact⟨(q16 R s.d _).2.2.1,(q16 R s.d _).2.2.2.2.1⟩
  unfold q0w
  generalize q1d R s.d (reqM x s (if u=true then "undo" else "do") i) luck=sr at e1
  obtain⟨ow,R1⟩:=sr
  cases ow with
  | some w=>exact e1
  | none =>
   dsimp only
   have e2:(q15 R1 x u).2.desks.length=R1.desks.length∧(q15 R1 x u).2.bound=R1.bound:=by unfold q15;split <;> exact⟨rfl,rfl⟩
   generalize q15 R1 x u=sr at e2
   obtain⟨ow,R2⟩:=sr
   cases ow with
   | some w=>exact⟨e2.1.trans e1.1,e2.2.trans e1.2⟩
   | none=>exact⟨e2.1.trans e1.1,e2.2.trans e1.2⟩
 cases d with
 | start x ss =>
  show (q2m R x ss).2.desks.length=_∧(q2m R x ss).2.bound=_
  unfold q2m
  split
  ·split <;> exact⟨rfl,rfl⟩
  ·exact⟨rfl,rfl⟩
 | go x luck =>
  show (goM R x luck).2.desks.length=_∧(goM R x luck).2.bound=_
  unfold goM
  split
  ·exact⟨rfl,rfl⟩
  ·split
   ·exact⟨rfl,rfl⟩
   ·split
    ·split
     ·exact hat ..
     ·exact⟨rfl,rfl⟩
    ·split
     ·exact hat ..
     ·exact⟨rfl,rfl⟩
    ·exact⟨rfl,rfl⟩
 | late i =>
  show (q2l R i).2.desks.length=_∧(q2l R i).2.bound=_
  unfold q2l
  split
  ·exact⟨rfl,rfl⟩
  ·split
   ·exact⟨(q16 R _ _).2.2.1,(q16 R _ _).2.2.2.2.1⟩
   ·exact⟨rfl,rfl⟩
 | fill d x m =>
  show (q28 R d x m).2.desks.length=_∧(q28 R d x m).2.bound=_
  unfold q28
  split
  ·split
   ·exact⟨List.length_set,rfl⟩
   ·exact⟨rfl,rfl⟩
  ·exact⟨rfl,rfl⟩
 | stop =>
  show (if R.up=true then (An.bl true,{ R with up:=false,tries:=[] }) else (.bl false,R)).2.desks.length=_∧(if R.up=true then (An.bl true,{ R with up:=false,tries:=[] }) else (.bl false,R)).2.bound=_
  split <;> exact⟨rfl,rfl⟩
 | wake =>
  show (if R.up=true then (An.bl false,R) else (.bl true,{ R with up:=true })).2.desks.length=_∧(if R.up=true then (An.bl false,R) else (.bl true,{ R with up:=true })).2.bound=_
  split <;> exact⟨rfl,rfl⟩
theorem qfs (R:Rn):runD R []=([],R):=rfl
theorem q34 (R:Rn) (ds:List Deed) (d:Deed):runD R (ds ++ [d])=((runD R ds).1 ++ [(q1j (runD R ds).2 d).1],(q1j (runD R ds).2 d).2):=by
 unfold runD
 rw[List.foldl_append];rfl
theorem q77 (R:Rn) (ds:List Deed):(runD R ds).1.length=ds.length:=by
 unfold runD
 have:∀ (ds:List Deed) (acc:List An×Rn),(ds.foldl (fun acc d=>(acc.1 ++ [(q1j acc.2 d).1],(q1j acc.2 d).2)) acc).1.length=acc.1.length + ds.length:=by
  intro ds
  induction ds with
  | nil=>exact fun acc=>rfl
  | cons d ds ih =>
   intro acc
   simp only[List.foldl_cons]
   rw[ih]
   simp;omega
 rw[this];simp
theorem q2o (R:Rn) (ds:List Deed):(runD R ds).2.desks.length=R.desks.length∧(runD R ds).2.bound=R.bound:=by
 unfold runD
 have:∀ (ds:List Deed) (acc:List An×Rn),(ds.foldl (fun acc d=>(acc.1 ++ [(q1j acc.2 d).1],(q1j acc.2 d).2)) acc).2.desks.length=acc.2.desks.length∧(ds.foldl (fun acc d=>(acc.1 ++ [(q1j acc.2 d).1],(q1j acc.2 d).2)) acc).2.bound=acc.2.bound:=by
  intro ds
  induction ds with
  | nil=>exact fun acc=>⟨rfl,rfl⟩
  | cons d ds ih =>
   intro acc
   simp only[List.foldl_cons]
   have:=ih (acc.1 ++ [(q1j acc.2 d).1],(q1j acc.2 d).2)
   have h2:=qbf acc.2 d
   exact⟨this.1.trans h2.1,this.2.trans h2.2⟩
 exact this ds ([],R)
end K07
end
section
namespace K07
open PySem L2
structure Stocks (H:Hp) (as:List Addr) (Ts:List Tb):Prop where
 len:as.length=Ts.length
 at_:∀ (i:Nat) a T,as[i]? = some a→Ts[i]? = some T→H a=some (.dK T)
theorem Stocks.same {H H':Hp} {as:List Addr} {Ts:List Tb} (h:Stocks H as Ts) (k:Kp [] H H'):Stocks H' as Ts:=⟨h.len,fun i a T e1 e2=>k.get (h.at_ i a T e1 e2) nEm⟩
structure StOk (Ts:List Tb) (n:Nat):Prop where
 i:∀ T ∈ Ts,q1r T
 l:∀ T ∈ Ts,T.length≤n
 z:Ts.length≤900
theorem q93 {Ts:List Tb} {n:Nat} {b:Int} (h:StOk Ts n):RnOk (newR Ts b) n:=by
 refine⟨fun T F hm=> ?_,by simp[newR],by simp[newR],by simp[newR],fun x=>by simp[newR],fun x ss hm=>by simp[newR]at hm,(fun k v e=>by cases e),by simp[newR],fun x ss hm=>by simp[newR]at hm,fun q hq=>by simp[newR]at hq,fun x ss hm=>by simp[newR]at hm⟩
 simp only[newR,List.mem_map]at hm
 obtain⟨T',hT,e⟩:=hm
 cases e
 exact⟨h.i T hT,(fun k v e=>by cases e),h.l T hT,Nat.zero_le _⟩
section
variable {P:Program} {w:World} {K:PySem.W.Frag} {mg:Str→Option Value} {base:Heap}
def q9b (C Cd:Addr):Sp:=fun vs H Q _=>∃ (r dx l:Addr) (b:Int) (as:List Addr) (Ts:List Tb) (H0:Hp) (n:Nat),vs=[.ref r,.ref l,.int b]∧H r=some (.ins C dx [])∧Kp [] H0 H∧H0 r=none∧H l=some (.lst (as.map V.ref))∧Stocks H as Ts∧StOk Ts n ∧
 ∀ H',RnAt C Cd H0 H' r (newR Ts b) n→Q .non H'
theorem qaj:FnScope ["self","stocks","bound"] ["self","stocks","bound"] (q06 qat):=⟨rfl,rfl,rfl,by decide +kernel,rfl,by decide +kernel,by decide +kernel⟩
theorem qfq {f C Cd:Addr} {fd:FuncData} (Fn:Fun K "__init__" "Runner.__init__" qat f fd) (T:TxtR K mg C) (DDesk:L2.Cd P w K mg base CX0 Cd 1 "Desk" ["self","things"] (qgf Cd)):FnOk P w K mg base CX0 3 f fd ["self","stocks","bound"] (q9b C Cd):=by
 refine Fn.ok qaj (fun vs H Q E h=> ?_) (fun cdv A outer sh H vs Q E hr h=> ?_)
 ·obtain⟨r,dx,l,b,as,Ts,H0,n,rfl,_⟩:=h
  rfl
 ·obtain⟨r,dx,l,b,as,Ts,H0,n,rfl,hr0,kp0,h0r,hl,S,ok,k⟩:=h
  have nd:=qaj.nd
  have hz:=ok.z
  refine⟨_,(q01 (q39 (pv 0) (q37 (NB:=["things"]) (ix:=[none]) rfl ⟨rfl,rfl,by decide +kernel,by decide +kernel,trivial,rfl,rfl,rfl,trivial⟩ (q1l (pv 1)) (fun _ _ _ _ _=>(q0x (i:=0) (show (["things"]:List Str).Nodup by decide +kernel) rfl (Or.inl rfl))) (fun _ _ _ _ _=>q3b) (fun _ _ _ _ _=>(qiy DDesk (hr.mono (by decide)) q0z (q00 (pv 0) q05)))) rfl)
   (q01 (q39 (pv 0) (pv 2) rfl)
   (q01 (q39 (pv 0) q1k rfl)
   (q01 (q39 (pv 0) q2y rfl)
   (q01 (q39 (pv 0) q2y rfl)
   (q01 (q39 (pv 0) q2y rfl)
   (q07 (q39 (pv 0) (q1t q05) rfl)))))))),?_⟩
  unfold tSeq sFld
  refine q4e (K:=K) (a:=l) (xs:=as.map V.ref) rfl (SqL.of hl) fun D0 hD=> ?_
  refine⟨(fun i σ ys H2=>∃ (v:Option V) (tg:Addr→Tg) (ps:List Addr),σ=[v]∧ys=ps.map V.ref∧ps.length=i∧Kp [] H H2∧H2 D0=some (.lst ys)∧(∀ b,H b ≠ none→tg b= .no)∧tg D0= .dl ∧
   ∀ (j:Nat) p T,ps[j]? = some p→Ts[j]? = some T→tg p= .desk∧∃ s d,DeskAt Cd H2 p s d T []∧tg s= .stock j∧tg d= .fates j),?_,?_,?_,?_⟩
  ·refine⟨none,(fun b=>if b=D0 then .dl else .no),[],rfl,rfl,rfl,Kp.new hD,q03,fun c hc=>if_neg fun z=>hc (by rw[z];exact hD),if_pos rfl,fun j p T e=>by simp at e⟩
  ·rintro i σ ys H2 hi ⟨v,tg,ps,rfl,ey,el,kp,hy,_⟩
   exact⟨SqL.of (kp.get hl nEm),hy⟩
  ·rintro i x σ ys H2 hx ⟨v,tg,ps,rfl,ey,el,kp,hy,tno,tD,hps⟩
   rw[List.getElem?_map]at hx
   cases ea:as[i]? with
   | none=>rw[ea]at hx;cases hx
   | some a =>
    rw[ea]at hx
    obtain rfl:V.ref a=x:=Option.some.inj hx
    have hi:i < Ts.length:=by rw[← S.len];exact(List.getElem?_eq_some_iff.mp ea).1
    have eT:Ts[i]? = some Ts[i]:=List.getElem?_eq_getElem hi
    have ha:=S.at_ i a _ ea eT
    have ha2:=kp.get ha nEm
    refine⟨_,rfl,fun p dp hp hdp ndp=>⟨p,dp,a,Ts[i],rfl,q03,?_,fun s d H6 hs6 hd6 D6 kp6=>⟨rfl,?_⟩⟩⟩
    ·rw[q0b (q0d ha2 hp),q0b (q0d ha2 hdp)];exact ha2
    have kp26:Kp [] H2 H6:=fun c o e _=>by
     have nb:c ≠ p:=q0d e hp
     exact kp6 c o (by rw[q0b nb,q0b (q0d e hdp)];exact e) (by simp[nb])
    obtain⟨nsp,hs1⟩:=q1u hs6
    have hs2:=(q1u hs1).2
    obtain⟨ndp',hd1⟩:=q1u hd6
    have hd2:=(q1u hd1).2
    have hy6:=kp26.get hy nEm
    have nsd:=D6.sd
    have fr:∀ {c:Addr} {o:HO},H2 c=some o→(if c=p then Tg.desk else if c=s then .stock i else if c=d then .fates i else tg c)=tg c:=fun {c o} e=>by
     rw[if_neg (q0d e hp),if_neg (q0d e hs2),if_neg (q0d e hd2)]
    have kD:∀ {H7:Hp} {p' s' d':Addr} {T':Tb},H7 D0=some (.lst ys)→DeskAt Cd H7 p' s' d' T' []→DeskAt Cd (upd H7 D0 (.lst (ys ++ [V.ref p]))) p' s' d' T' []:=fun {H7 p' s' d' T'} hy7 D7=>by
     obtain⟨dq,hq⟩:=D7.ob
     exact D7.keep (ex:=[D0]) (Kp.put (by simp)) (by simp;exact q30 hq hy7 (by intro z;cases z)) (by simp;exact q30 D7.st hy7 (by intro z;cases z)) (by simp;exact q30 D7.ft hy7 (by intro z;cases z))
    refine⟨hy6,?_,_,(fun c=>if c=p then Tg.desk else if c=s then .stock i else if c=d then .fates i else tg c),ps ++ [p],rfl,?_,by simp[el],?_,q03,fun c hc=> ?_,(fr hy).trans tD,fun j q T' e1 e2=> ?_⟩
    ·rw[ey,List.length_map,el];exact q0n (by omega)
    ·rw[ey,List.map_append];rfl
    ·intro c o e hn
     rw[q0b (q0d e hD)]
     exact(kp.trans kp26) c o e hn
    ·cases e:H c with
     | none=>exact absurd e hc
     | some o=>exact(fr (kp.get e nEm)).trans (tno c hc)
    ·by_cases hj:j < ps.length
     ·rw[List.getElem?_append_left hj]at e1
      obtain⟨t1,s',d',D',t2,t3⟩:=hps j q T' e1 e2
      obtain⟨dq,hq⟩:=D'.ob
      exact⟨(fr hq).trans t1,s',d',kD hy6 (D'.same kp26),(fr D'.st).trans t2,(fr D'.ft).trans t3⟩
     ·have ej:j=ps.length:=by
       have:=(List.getElem?_eq_some_iff.mp e1).1
       simp at this
       omega
      subst ej
      rw[List.getElem?_append_right (Nat.le_refl _)]at e1
      simp at e1
      subst e1
      rw[el,eT]at e2
      obtain rfl:Ts[i]=T':=Option.some.inj e2
      rw[el]
      exact⟨if_pos rfl,s,d,kD hy6 D6,by dsimp only;rw[if_neg nsp,if_pos rfl],by dsimp only;rw[if_neg ndp',if_neg (Ne.symm nsd),if_pos rfl]⟩
  rintro σ ys H1 ⟨v,tg,ps,rfl,ey,el,kp1,hy,tno,tD,hps⟩
  subst ey
  have hr1:=kp1.get hr0 nEm
  refine⟨_,rfl,r,C,dx,_,rfl,hr1,T.cl,T.nDesks,(by show 0 < 1000;decide),?_⟩
  refine⟨_,rfl,_,rfl,r,C,dx,_,rfl,q03,T.cl,T.nBound,(by show 1 < 1000;decide),?_⟩
  refine⟨_,rfl,r,C,dx,_,rfl,q03,T.cl,T.nUp,(by show 2 < 1000;decide),?_⟩
  rw[q8w,q8w]
  refine fun wd hwd=>⟨_,rfl,r,C,dx,_,rfl,(Kp.new (ex:=[]) hwd).get q03 nEm,T.cl,T.nWorks,(by show 3 < 1000;decide),?_⟩
  refine abs (fun H2=>Kp [r] H1 H2∧H2 r=some (.ins C dx (putF "works" (.ref wd) (putF "up" (.bl true) (putF "bound" (.int b) (putF "desks" (.ref D0) [])))))∧H2 wd=some (.dK [])∧H1 wd=none∧wd ≠ r) ⟨?_,q03,?_,?_,?_⟩ ?_
  ·exact((Kp.put (by simp)).trans (Kp.new hwd)).trans (Kp.put (by simp))
  ·rw[q0b (q1u hwd).1,q03]
  ·exact(q1u hwd).2
  ·exact(q1u hwd).1
  clear hwd
  rintro H2 ⟨kp2,hr2,hwd2,hwd1,nwr⟩
  refine fun td htd=>⟨_,rfl,r,C,dx,_,rfl,(Kp.new (ex:=[]) htd).get hr2 nEm,T.cl,T.nTrails,(by show 4 < 1000;decide),?_⟩
  have ntr':td ≠ r:=fun z=>by rw[z,hr2]at htd;cases htd
  have ntw:td ≠ wd:=fun z=>by rw[z,hwd2]at htd;cases htd
  refine abs (fun H3=>Kp [r] H2 H3∧H3 r=some (.ins C dx (putF "trails" (.ref td) (putF "works" (.ref wd) (putF "up" (.bl true) (putF "bound" (.int b) (putF "desks" (.ref D0) []))))))∧H3 td=some (.dK [])) ⟨(Kp.new htd).trans (Kp.put (by simp)),q03,by rw[q0b ntr',q03]⟩ ?_
  rintro H3 ⟨kp3,hr3,htd3⟩
  have hwd3:=kp3.get hwd2 (by simp[nwr])
  refine fun tr htr=>⟨_,rfl,r,C,dx,_,rfl,(Kp.new (ex:=[]) htr).get hr3 nEm,T.cl,T.nTries,(by show 5 < 1000;decide),?_⟩
  have nrr:tr ≠ r:=fun z=>by rw[z,hr3]at htr;cases htr
  have nrw:tr ≠ wd:=fun z=>by rw[z,hwd3]at htr;cases htr
  have nrt:tr ≠ td:=fun z=>by rw[z,htd3]at htr;cases htr
  refine abs (fun H4=>Kp [r] H3 H4∧H4 r=some (.ins C dx (putF "tries" (.ref tr) (putF "trails" (.ref td) (putF "works" (.ref wd) (putF "up" (.bl true) (putF "bound" (.int b) (putF "desks" (.ref D0) [])))))))∧H4 tr=some (.dK [])) ⟨(Kp.new htr).trans (Kp.put (by simp)),q03,by rw[q0b nrr,q03]⟩ ?_
  rintro H4 ⟨kp4,hr4,htr4⟩
  have hwd4:=kp4.get hwd3 (by simp[nwr])
  have htd4:=kp4.get htd3 (by simp[ntr'])
  refine⟨(by show 0≤sizeLine;decide),fun lo hlo=>⟨_,rfl,r,C,dx,_,rfl,(Kp.new (ex:=[]) hlo).get hr4 nEm,T.cl,T.nLost,(by show 6 < 1000;decide),?_⟩⟩
  have nlr:lo ≠ r:=fun z=>by rw[z,hr4]at hlo;cases hlo
  have nlw:lo ≠ wd:=fun z=>by rw[z,hwd4]at hlo;cases hlo
  have nlt:lo ≠ td:=fun z=>by rw[z,htd4]at hlo;cases hlo
  have nlt':lo ≠ tr:=fun z=>by rw[z,htr4]at hlo;cases hlo
  refine abs (fun H5=>Kp [r] H4 H5∧H5 r=some (.ins C dx (q2k D0 b true wd td tr lo))∧H5 lo=some (.lst [])) ⟨(Kp.new hlo).trans (Kp.put (by simp)),q03,by rw[q0b nlr,q03]⟩ ?_
  rintro H5 ⟨kp5,hr5,hlo5⟩
  have kp15:Kp [r] H1 H5:=((kp2.trans kp3).trans kp4).trans kp5
  have hwd5:=kp5.get hwd4 (by simp[nwr])
  have htd5:=kp5.get htd4 (by simp[ntr'])
  have htr5:=kp5.get htr4 (by simp[nrr])
  have htd1:H1 td=none:=by
   cases e:H1 td with
   | none=>rfl
   | some o=>have:=kp2.get e (by simp[ntr']);rw[htd]at this;cases this
  have htr1:H1 tr=none:=by
   cases e:H1 tr with
   | none=>rfl
   | some o=>have:=(kp2.trans kp3).get e (by simp[nrr]);rw[htr]at this;cases this
  have hlo1:H1 lo=none:=by
   cases e:H1 lo with
   | none=>rfl
   | some o=>have:=((kp2.trans kp3).trans kp4).get e (by simp[nlr]);rw[hlo]at this;cases this
  have nDr:D0 ≠ r:=q30 hy hr1 (by intro z;cases z)
  have fr:∀ {c:Addr} {o:HO},H1 c=some o→c ≠ r→(if c=r then Tg.run else if c=wd then .works else if c=td then .trails else if c=tr then .tries else if c=lo then .lost else tg c)=tg c:=fun {c o} e n=>by
   rw[if_neg n,if_neg (q0d e hwd1),if_neg (q0d e htd1),if_neg (q0d e htr1),if_neg (q0d e hlo1)]
  have el':ps.length=Ts.length:=by rw[el,List.length_map,S.len]
  refine k H5 ⟨q93 ok,(fun c=>if c=r then Tg.run else if c=wd then .works else if c=td then .trails else if c=tr then .tries else if c=lo then .lost else tg c),D0,wd,td,tr,lo,ps,(fun _=>0),(fun _=>0),?_⟩
  refine⟨fun c o e _=> ?_,fun c o e=> ?_,if_pos rfl,fun _=>⟨dx,hr5⟩,(fr hy nDr).trans tD,fun _=>kp15.get hy (by simp[nDr]),?_,fun i p T' F' e1 e2 _ _ _=> ?_,?_,fun _=>hwd5,fun x ss hm=>by simp[newR]at hm,?_,fun _=>htd5,fun x ss hm=>by simp[newR]at hm,?_,fun _=>htr5,?_,fun _=>⟨[],hlo5,⟨rfl,fun i a q e=>by simp at e⟩⟩⟩
  ·have ncr:c ≠ r:=fun z=>by rw[z,h0r]at e;cases e
   exact kp15.get (kp1.get (kp0.get e (by simp)) nEm) (by simp[ncr])
  ·have ncr:c ≠ r:=fun z=>by rw[z,h0r]at e;cases e
   have eH:=kp0.get e nEm
   exact(fr (kp1.get eH nEm) ncr).trans (tno c (by rw[eH];simp))
  ·rw[el'];simp[newR]
  ·have e2':(Ts.map fun T=>(T,([]:Fb)))[i]? = some (T',F'):=e2
   rw[List.getElem?_map]at e2'
   cases e3:Ts[i]? with
   | none=>rw[e3]at e2';cases e2'
   | some T0 =>
    rw[e3]at e2'
    cases e2'
    obtain⟨t1,s,d,D,t2,t3⟩:=hps i p _ e1 e3
    obtain⟨dq,hq⟩:=D.ob
    have n1:p ≠ r:=fun z=>by
     have hrt:tg r= .no:=tno r (by rw[hr0];simp)
     rw[← z,t1]at hrt
     cases hrt
    have n2:s ≠ r:=q30 D.st hr1 (by intro z;cases z)
    have n3:d ≠ r:=q30 D.ft hr1 (by intro z;cases z)
    exact⟨(fr hq n1).trans t1,s,d,D.keep kp15 (by simp[n1]) (by simp[n2]) (by simp[n3]),(fr D.st n2).trans t2,(fr D.ft n3).trans t3⟩
  ·rw[if_neg nwr,if_pos rfl]
  ·rw[if_neg ntr',if_neg ntw,if_pos rfl]
  ·rw[if_neg nrr,if_neg nrw,if_neg nrt,if_pos rfl]
  ·rw[if_neg nlr,if_neg nlw,if_neg nlt,if_neg nlt',if_pos rfl]
end
end K07
end
section
namespace K07
open PySem L2
def q59 (R:Rn):Deed→Option Bool
 | .start _ ss=>if (ss.all fun s=>inD R s.d)=true then none else some false
 | .go x _=>if goNo R x=true then some true else none
 | .fill d _ _=>if inD R d=true then none else some false
 | _=>none
theorem qbu {R:Rn} {d:Deed} (h:q59 R d=some false):q1j R d=(.str "no desk",R):=by
 cases d with
 | start x ss =>
  have h':(if (ss.all fun s=>inD R s.d)=true then none else some false)=some false:=h
  split at h'
  ·cases h'
  ·rename_i hn
   show q2m R x ss=_
   unfold q2m
   rw[if_neg hn]
 | go x luck =>
  have h':(if goNo R x=true then some true else none)=some false:=h
  split at h' <;> cases h'
 | fill d x n =>
  have h':(if inD R d=true then none else some false)=some false:=h
  split at h'
  ·cases h'
  ·rename_i hn
   show q28 R d x n=_
   unfold q28
   rw[if_neg hn]
 | _=>cases h
theorem qbk {R:Rn} {d:Deed} (h:q59 R d=some true):q1j R d=(.str "no work",R):=by
 cases d with
 | go x luck =>
  have h':(if goNo R x=true then some true else none)=some true:=h
  split at h'
  ·rename_i hn
   unfold goNo at hn
   rw[Bool.and_eq_true]at hn
   show goM R x luck=_
   unfold goM
   rw[if_neg (by rw[hn.1];simp),Option.isNone_iff_eq_none.mp hn.2]
  ·cases h'
 | start x ss =>
  have h':(if (ss.all fun s=>inD R s.d)=true then none else some false)=some true:=h
  split at h' <;> cases h'
 | fill d x n =>
  have h':(if inD R d=true then none else some false)=some true:=h
  split at h' <;> cases h'
 | _=>cases h
section
variable {P:Program} {w:World} {K:PySem.W.Frag} {mg:Str→Option Value} {base:Heap}
def qgh (C Cd CN CW:Addr):Sp:=fun vs H Q E=>∃ (r a:Addr) (d:Deed) (H0:Hp) (R:Rn) (n:Nat),vs=[.ref r,.ref a]∧q1y H a d∧RnAt C Cd H0 H r R n∧R.desks.length≤900∧n≤870 ∧
 (q59 R d=none→∀ v H',RnAt C Cd H0 H' r (q1j R d).2 (n + 1)→TK H H'→AnV H' v (q1j R d).1→Q v H')∧(q59 R d=some false→E (.ref CN) none H)∧(q59 R d=some true→E (.ref CW) none H)
theorem qdv:FnScope ["runner","deed"] ["runner","deed"] (q06 q92):=⟨rfl,rfl,rfl,by decide +kernel,rfl,by decide +kernel,by decide +kernel⟩
theorem qhq {f C Cd CN CW:Addr} {fd:FuncData} (Fn:Fun K "done" "done" q92 f fd) (DRunner_start:Md P w K mg base (CX1 P w) C 2 "start" ["self","name","steps"] (qdf C Cd CN)) (DRunner_go:Md P w K mg base (CX1 P w) C 8 "go" ["self","name","luck"] (spGo C Cd CW))
  (DRunner_late:Md P w K mg base CX0 C 6 "late" ["self","which"] (qgz C Cd)) (DRunner_fill:Md P w K mg base (CX1 P w) C 3 "fill" ["self","number","thing","many"] (qhd C Cd CN)) (DRunner_stop:Md P w K mg base CX0 C 1 "stop" ["self"] (qai C Cd .stop)) (DRunner_wake:Md P w K mg base CX0 C 1 "wake" ["self"] (qai C Cd .wake)) :
  FnOk P w K mg base (CX1 P w) 9 f fd ["runner","deed"] (qgh C Cd CN CW):=by
 refine Fn.okX qdv (fun vs H Q E h=> ?_) (fun cdv A outer s H vs Q E hr h=> ?_)
 ·obtain⟨r,a,d,H0,R,n,rfl,_⟩:=h
  rfl
 ·obtain⟨r,a,d,H0,R,n,rfl,hd,I,hz,hn,k1,k2,k3⟩:=h
  have nd:=qdv.nd
  have fx:=q3x (CX:=CX1 P w) (P:=P) (w:=w) (K:=K) (mg:=mg) (base:=base) (N:=["runner","deed"]) (qual:= "done") (scope:=q06 q92) (f:=f) (cd:=cdv) (A:=A) (outer:=outer) (s:=s) (H:=H) (E:=E)
  obtain⟨tg,dl,wd,td,tr,lo,ps,wa,ta,Pp⟩:=I.ex
  obtain⟨dx,ho⟩:=Pp.ob rfl
  have hs:∀ x ss,d= .start x ss→ss.length≤1000:=fun x ss e=>by
   subst e
   obtain⟨l,as,_,_,_,h4⟩:=hd
   omega
  have okd:=I.ok.deed d hs
  have sne:∀ {x y:Str},x ≠ y→¬ (V.str x=V.str y):=fun h z=>h (V.str.inj z)
  refine⟨_,(q1f (q82 (q0f q1i (q0k q0h (pv 1) q02 (fun _ _=>rfl)) q09 (q0i _))
   (q1v (q70 (q8g fx DRunner_start (hr.mono (by decide)) (pv 0) (q00 (q0k q0h (pv 1) q02 (fun _ _=>rfl)) (q00 (q0k q0h (pv 1) q02 (fun _ _=>rfl)) q05)))))
   (q5d q0c))
   (q1f (q82 (q0f q1i (q0k q0h (pv 1) q02 (fun _ _=>rfl)) q09 (q0i _))
   (q1v (q70 (q8g fx DRunner_go (hr.mono (by decide)) (pv 0) (q00 (q0k q0h (pv 1) q02 (fun _ _=>rfl)) (q00 (q0k q0h (pv 1) q02 (fun _ _=>rfl)) q05)))))
   (q5d q0c))
   (q1f (q31 (q0q (q0f q1i (q0k q0h (pv 1) q02 (fun _ _=>rfl)) q09 (q0i _))
   (q07 (q0a (q3g DRunner_late (hr.mono (by decide)) q0z (pv 0) (q00 (q0k q0h (pv 1) q02 (fun _ _=>rfl)) q05))))
   q0c))
   (q1f (q82 (q0f q1i (q0k q0h (pv 1) q02 (fun _ _=>rfl)) q09 (q0i _))
   (q1v (q70 (q8g fx DRunner_fill (hr.mono (by decide)) (pv 0) (q00 (q0k q0h (pv 1) q02 (fun _ _=>rfl)) (q00 (q0k q0h (pv 1) q02 (fun _ _=>rfl)) (q00 (q0k q0h (pv 1) q02 (fun _ _=>rfl)) q05))))))
   (q5d q0c))
   (q1f (q31 (q0q (q0f q1i (q0k q0h (pv 1) q02 (fun _ _=>rfl)) q09 (q0i _))
   (q07 (q0a (qgg DRunner_stop (hr.mono (by decide)) q0z (pv 0))))
   q0c))
   (q1v (q31 (q0a (qgg DRunner_wake (hr.mono (by decide)) q0z (pv 0)))))))))),?_⟩
  cases d with
  | start x ss =>
   obtain⟨l,as,h1,h2,h3,h4⟩:=hd
   refine⟨_,rfl,a,_,_,_,rfl,rfl,SqT.of h1,q08 (j:=0) rfl,rfl,_,rfl,iteD rfl ?_⟩
   refine⟨_,rfl,r,dx,_,rfl,ho,q4o (by decide +kernel),_,rfl,a,_,_,_,rfl,rfl,SqT.of h1,q08 (j:=1) rfl,_,rfl,a,_,_,_,rfl,rfl,SqT.of h1,q08 (j:=2) rfl,
    r,l,x,as,ss,H0,R,n,rfl,h2,h3,h4,I,hz,by omega,fun ha v H' I' tk an=> ?_,fun ha=> ?_⟩
   ·exact k1 (if_pos ha) v H' ⟨okd,I'.ex⟩ tk an
   ·exact k2 (if_neg (by rw[ha];simp))
  | go x luck =>
   have h1:H a=some (.tup [.str "go",.str x,.str luck]):=hd
   refine⟨_,rfl,a,_,_,_,rfl,rfl,SqT.of h1,q08 (j:=0) rfl,rfl,_,rfl,q14 (sne (by decide +kernel)) ?_⟩
   refine⟨_,rfl,a,_,_,_,rfl,rfl,SqT.of h1,q08 (j:=0) rfl,rfl,_,rfl,iteD rfl ?_⟩
   refine⟨_,rfl,r,dx,_,rfl,ho,q4o (by decide +kernel),_,rfl,a,_,_,_,rfl,rfl,SqT.of h1,q08 (j:=1) rfl,_,rfl,a,_,_,_,rfl,rfl,SqT.of h1,q08 (j:=2) rfl,
    r,x,luck,H0,R,n,rfl,I,hz,by omega,fun hg v H' I' tk an=> ?_,fun hg=> ?_⟩
   ·exact k1 (if_neg (by rw[hg];simp)) v H' ⟨okd,I'.ex⟩ tk an
   ·exact k3 (if_pos hg)
  | late i =>
   have h1:H a=some (.tup [.str "late",.int i]):=hd
   refine⟨_,rfl,a,_,_,_,rfl,rfl,SqT.of h1,q08 (j:=0) rfl,rfl,_,rfl,q14 (sne (by decide +kernel)) ?_⟩
   refine⟨_,rfl,a,_,_,_,rfl,rfl,SqT.of h1,q08 (j:=0) rfl,rfl,_,rfl,q14 (sne (by decide +kernel)) ?_⟩
   refine⟨_,rfl,a,_,_,_,rfl,rfl,SqT.of h1,q08 (j:=0) rfl,rfl,_,rfl,iteD rfl ?_⟩
   refine⟨_,rfl,r,dx,_,rfl,ho,q4o (by decide +kernel),_,rfl,a,_,_,_,rfl,rfl,SqT.of h1,q08 (j:=1) rfl,r,i,H0,R,n,rfl,I,hz,by omega,fun v H' I' tk an=> ?_⟩
   exact k1 rfl v H' ⟨okd,I'.ex⟩ tk an
  | fill d x m =>
   have h1:H a=some (.tup [.str "fill",.int d,.str x,.int m]):=hd
   refine⟨_,rfl,a,_,_,_,rfl,rfl,SqT.of h1,q08 (j:=0) rfl,rfl,_,rfl,q14 (sne (by decide +kernel)) ?_⟩
   refine⟨_,rfl,a,_,_,_,rfl,rfl,SqT.of h1,q08 (j:=0) rfl,rfl,_,rfl,q14 (sne (by decide +kernel)) ?_⟩
   refine⟨_,rfl,a,_,_,_,rfl,rfl,SqT.of h1,q08 (j:=0) rfl,rfl,_,rfl,q14 (sne (by decide +kernel)) ?_⟩
   refine⟨_,rfl,a,_,_,_,rfl,rfl,SqT.of h1,q08 (j:=0) rfl,rfl,_,rfl,iteD rfl ?_⟩
   refine⟨_,rfl,r,dx,_,rfl,ho,q4o (by decide +kernel),_,rfl,a,_,_,_,rfl,rfl,SqT.of h1,q08 (j:=1) rfl,_,rfl,a,_,_,_,rfl,rfl,SqT.of h1,q08 (j:=2) rfl,_,rfl,a,_,_,_,rfl,rfl,SqT.of h1,q08 (j:=3) rfl,
    r,d,x,m,H0,R,n,rfl,I,hz,by omega,fun hi H' I' tk=> ?_,fun hi=> ?_⟩
   ·refine k1 (if_pos hi) _ H' ⟨okd,I'.ex⟩ tk ?_
    obtain⟨i,rfl,T,F,eT⟩:=qc9 hi
    show AnV H' (.bl true) (q28 R i x m).1
    unfold q28
    rw[if_pos hi,Int.toNat_natCast,eT]
    rfl
   ·exact k2 (if_neg (by rw[hi];simp))
  | stop =>
   have h1:H a=some (.tup [.str "stop"]):=hd
   refine⟨_,rfl,a,_,_,_,rfl,rfl,SqT.of h1,q08 (j:=0) rfl,rfl,_,rfl,q14 (sne (by decide +kernel)) ?_⟩
   refine⟨_,rfl,a,_,_,_,rfl,rfl,SqT.of h1,q08 (j:=0) rfl,rfl,_,rfl,q14 (sne (by decide +kernel)) ?_⟩
   refine⟨_,rfl,a,_,_,_,rfl,rfl,SqT.of h1,q08 (j:=0) rfl,rfl,_,rfl,q14 (sne (by decide +kernel)) ?_⟩
   refine⟨_,rfl,a,_,_,_,rfl,rfl,SqT.of h1,q08 (j:=0) rfl,rfl,_,rfl,q14 (sne (by decide +kernel)) ?_⟩
   refine⟨_,rfl,a,_,_,_,rfl,rfl,SqT.of h1,q08 (j:=0) rfl,rfl,_,rfl,iteD rfl ?_⟩
   refine⟨_,rfl,r,dx,_,rfl,ho,q4o (by decide +kernel),r,H0,R,n,rfl,I,fun v H' I' tk an=> ?_⟩
   exact k1 rfl v H' ⟨okd,I'.ex⟩ tk an
  | wake =>
   have h1:H a=some (.tup [.str "wake"]):=hd
   refine⟨_,rfl,a,_,_,_,rfl,rfl,SqT.of h1,q08 (j:=0) rfl,rfl,_,rfl,q14 (sne (by decide +kernel)) ?_⟩
   refine⟨_,rfl,a,_,_,_,rfl,rfl,SqT.of h1,q08 (j:=0) rfl,rfl,_,rfl,q14 (sne (by decide +kernel)) ?_⟩
   refine⟨_,rfl,a,_,_,_,rfl,rfl,SqT.of h1,q08 (j:=0) rfl,rfl,_,rfl,q14 (sne (by decide +kernel)) ?_⟩
   refine⟨_,rfl,a,_,_,_,rfl,rfl,SqT.of h1,q08 (j:=0) rfl,rfl,_,rfl,q14 (sne (by decide +kernel)) ?_⟩
   refine⟨_,rfl,a,_,_,_,rfl,rfl,SqT.of h1,q08 (j:=0) rfl,rfl,_,rfl,q14 (sne (by decide +kernel)) ?_⟩
   refine⟨_,rfl,r,dx,_,rfl,ho,q4o (by decide +kernel),r,H0,R,n,rfl,I,fun v H' I' tk an=> ?_⟩
   exact k1 rfl v H' ⟨okd,I'.ex⟩ tk an
def q46 (C Cd:Addr):Sp:=fun vs H Q _=>∃ (r a:Addr) (d:Deed) (H0:Hp) (R:Rn) (n:Nat),vs=[.ref r,.ref a]∧q1y H a d∧RnAt C Cd H0 H r R n∧R.desks.length≤900∧n≤870 ∧
 ∀ v H',RnAt C Cd H0 H' r (q1j R d).2 (n + 1)→TK H H'→AnV H' v (q1j R d).1→Q v H'
theorem q7o:FnScope ["runner","deed"] ["runner","deed"] (q06 q3y):=⟨rfl,rfl,rfl,by decide +kernel,rfl,by decide +kernel,by decide +kernel⟩
theorem qcg {f C Cd CN CW:Addr} {fd:FuncData} (Fn:Fun K "answer" "answer" q3y f fd) (Ddone:Df P w K mg base (CX1 P w) 9 "done" ["runner","deed"] (qgh C Cd CN CW)) (g_NoDesk:mg "NoDesk" = some (.ref CN)) (Z_NoDesk:XCls K CN) (g_NoWork:mg "NoWork" = some (.ref CW)) (Z_NoWork:XCls K CW)
  (m_D:PySem.W.mroIn K CN (.ref CN)=some true) (m_WD:PySem.W.mroIn K CW (.ref CN)=some false) (m_W:PySem.W.mroIn K CW (.ref CW)=some true):FnOk P w K mg base (CX1 P w) 10 f fd ["runner","deed"] (q46 C Cd):=by
 refine Fn.okX q7o (fun vs H Q E h=> ?_) (fun cdv A outer s H vs Q E hr h=> ?_)
 ·obtain⟨r,a,d,H0,R,n,rfl,_⟩:=h
  rfl
 ·obtain⟨r,a,d,H0,R,n,rfl,hd,I,hz,hn,k⟩:=h
  have nd:=q7o.nd
  have fx:=q3x (CX:=CX1 P w) (P:=P) (w:=w) (K:=K) (mg:=mg) (base:=base) (N:=["runner","deed"]) (qual:= "answer") (scope:=q06 q3y) (f:=f) (cd:=cdv) (A:=A) (outer:=outer) (s:=s) (H:=H) (E:=E)
  refine⟨_,(q1v (qiw fx (q1v (q70 (qkh fx Ddone (hr.mono (by decide)) (q00 (pv 0) (q00 (pv 1) q05)))))
   (q9j fx g_NoDesk Z_NoDesk (fun ea=>(q07 (q0a q09))) (q9j fx g_NoWork Z_NoWork (fun ea=>(q07 (q0a q09))) qjb)))),?_⟩
  refine⟨_,rfl,_,rfl,r,a,d,H0,R,n,rfl,hd,I,hz,hn,fun _ v H' I' tk an=>k v H' I' tk an,fun h=> ?_,fun h=> ?_⟩
  ·refine⟨CN,rfl,Z_NoDesk,true,m_D,iteT fun _=> ?_⟩
   have:=k (.str "no desk") H
   rw[qbu h]at this
   exact this (I.mono (by omega)) (TK.refl H) rfl
  ·refine⟨CW,rfl,Z_NoWork,false,m_WD,iteF ⟨Z_NoWork,true,m_W,iteT fun _=> ?_⟩⟩
   have:=k (.str "no work") H
   rw[qbk h]at this
   exact this (I.mono (by omega)) (TK.refl H) rfl
theorem q8r {C Cd f:Addr} {fd:FuncData} {k:Nat} {ps:List Str} (F:FnOk P w K mg base (CX1 P w) k f fd ps (q46 C Cd)):FnOk P w K mg base CX0 k f fd ps (q46 C Cd):=F.calm fun vs H Q E h=>h
structure AnVs (H:Hp) (vs:List V) (as:List An):Prop where
 len:vs.length=as.length
 at_:∀ (i:Nat) v a,vs[i]? = some v→as[i]? = some a→AnV H v a
theorem AnVs.tk {H H':Hp} {vs:List V} {as:List An} (h:AnVs H vs as) (k:TK H H'):AnVs H' vs as:=⟨h.len,fun i v a e1 e2=>(h.at_ i v a e1 e2).tk k⟩
theorem AnVs.snoc {H:Hp} {vs:List V} {as:List An} {v:V} {a:An} (h:AnVs H vs as) (hv:AnV H v a):AnVs H (vs ++ [v]) (as ++ [a]):=by
 refine⟨by simp[h.len],fun i u b e1 e2=> ?_⟩
 by_cases hi:i < vs.length
 ·rw[List.getElem?_append_left hi]at e1
  rw[List.getElem?_append_left (by rw[← h.len];exact hi)]at e2
  exact h.at_ i u b e1 e2
 ·have e:i=vs.length:=by
   have:=(List.getElem?_eq_some_iff.mp e1).1
   simp at this
   omega
  subst e
  rw[List.getElem?_append_right (Nat.le_refl _)]at e1
  rw[h.len,List.getElem?_append_right (Nat.le_refl _)]at e2
  simp at e1 e2
  subst e1 e2
  exact hv
structure StoryIn (H:Hp) (l ld:Addr) (as:List Addr) (Ts:List Tb) (ad:List Addr) (ds:List Deed) (n:Nat):Prop where
 hl:H l=some (.lst (as.map V.ref))
 S:Stocks H as Ts
 ok:StOk Ts n
 hd:H ld=some (.lst (ad.map V.ref))
 D:Deeds H ad ds
 z:n + ds.length≤860
def q8k (C Cd:Addr):Sp:=fun vs H Q _=>∃ (l ld:Addr) (b:Int) (as:List Addr) (Ts:List Tb) (ad:List Addr) (ds:List Deed) (n:Nat),vs=[.ref l,.int b,.ref ld]∧StoryIn H l ld as Ts ad ds n ∧
 ∀ p us H',H p=none→H' p=some (.lst us)→AnVs H' us (runD (newR Ts b) ds).1→Kp [] H H'→Q (.ref p) H'
theorem q6s:FnScope ["stocks","bound","deeds","runner"] ["stocks","bound","deeds"] (q06 q3o):=⟨rfl,rfl,rfl,by decide +kernel,rfl,by decide +kernel,by decide +kernel⟩
theorem qaz {f C Cd:Addr} {fd:FuncData} (Fn:Fun K "answers" "answers" q3o f fd) (DRunner:L2.Cd P w K mg base CX0 C 3 "Runner" ["self","stocks","bound"] (q9b C Cd)) (Danswer:Df P w K mg base CX0 10 "answer" ["runner","deed"] (q46 C Cd)):FnOk P w K mg base CX0 11 f fd ["stocks","bound","deeds"] (q8k C Cd):=by
 refine Fn.ok q6s (fun vs H Q E h=> ?_) (fun cdv A outer s H vs Q E hr h=> ?_)
 ·obtain⟨l,ld,b,as,Ts,ad,ds,n,rfl,_⟩:=h
  rfl
 ·obtain⟨l,ld,b,as,Ts,ad,ds,n,rfl,SI,k⟩:=h
  have nd:=q6s.nd
  have hz:=SI.z
  refine⟨_,(q01 (q0s (i:=3) nd rfl (Or.inr rfl) (qiy DRunner (hr.mono (by decide)) q0z (q00 (pv 0) (q00 (pv 1) q05))))
   (q07 (q0a (q37 (NB:=["deed","runner"]) (ix:=[none,some 3]) rfl ⟨rfl,rfl,by decide +kernel,by decide +kernel,⟨rfl,trivial⟩,rfl,rfl,rfl,⟨⟨rfl,.inl rfl,.inl rfl,rfl⟩,trivial⟩⟩ (q1l (pv 2)) (fun _ _ _ _ _=>(q0x (i:=0) (show (["deed","runner"]:List Str).Nodup by decide +kernel) rfl (Or.inl rfl))) (fun _ _ _ _ _=>q3b) (fun _ _ _ _ _=>(q18 Danswer (hr.mono (by decide)) q0z (q00 (pv 1) (q00 (pv 0) q05)))))))),?_⟩
  refine⟨_,rfl,_,rfl,fun r dx hr0 hdx ndr=> ?_⟩
  have kp1:Kp [] H (upd (upd H dx (.own r)) r (.ins C dx [])):=fun c o e _=>by rw[q0b (q0d e hr0),q0b (q0d e hdx)];exact e
  refine⟨r,dx,l,b,as,Ts,H,n,rfl,q03,kp1,hr0,kp1.get SI.hl nEm,SI.S.same kp1,SI.ok,fun H2 I2=>⟨rfl,?_⟩⟩
  have nl:=q93 SI.ok (b:=b)
  have ld2:(newR Ts b).desks.length≤900:=by simp[newR];exact SI.ok.z
  generalize hR:newR Ts b=R0 at I2 k nl ld2
  refine⟨_,rfl,ld,rfl,⟨_,SqL.of (I2.kp.get SI.hd nEm)⟩,fun D0 hD=> ?_⟩
  have hDH:H D0=none:=by
   cases e:H D0 with
   | none=>rfl
   | some o=>have:=I2.kp.get e nEm;rw[hD]at this;cases this
  refine q2r (xs:=ad.map V.ref) (fun i σ ys H3=>∃ v:Option V,σ=[v,some (.ref r)]∧RnAt C Cd (upd H D0 (.lst ys)) H3 r (runD R0 (ds.take i)).2 (n + i)∧AnVs H3 ys (runD R0 (ds.take i)).1) ?_ ?_ ?_ ?_
  ·exact⟨none,rfl,I2.new hD,⟨rfl,fun i v a e=>by simp at e⟩⟩
  ·rintro i σ ys H3 hi ⟨v,rfl,I3,_⟩
   refine⟨SqL.of (I3.kp.get ?_ (by simp)),I3.kp.get q03 nEm⟩
   rw[q0b (q0d SI.hd hDH)];exact SI.hd
  ·rintro i x σ ys H3 hx ⟨v,rfl,I3,AV⟩
   rw[List.getElem?_map]at hx
   cases ea:ad[i]? with
   | none=>rw[ea]at hx;cases hx
   | some a =>
    rw[ea]at hx
    obtain rfl:V.ref a=x:=Option.some.inj hx
    have hi:i < ds.length:=by rw[← SI.D.len];exact(List.getElem?_eq_some_iff.mp ea).1
    have ed:ds[i]? = some ds[i]:=List.getElem?_eq_getElem hi
    have kpD:Kp [] H (upd H D0 (.lst ys)):=Kp.new hDH
    have hdA:=((SI.D.at_ i a _ ea ed).same kpD).same I3.kp
    have eR:=q34 R0 (ds.take i) ds[i]
    rw[← q27 ed]at eR
    have hdl:(runD R0 (ds.take i)).2.desks.length≤900:=by rw[(q2o R0 _).1];exact ld2
    refine⟨_,rfl,_,rfl,r,a,ds[i],_,_,n + i,rfl,hdA,I3,hdl,by omega,fun v' H4 I4 tk an=> ?_⟩
    have hD4:H4 D0=some (.lst ys):=I4.kp.get q03 nEm
    refine⟨hD4,?_,_,rfl,?_,?_⟩
    ·rw[AV.len,q77,List.length_take]
     exact q0n (by omega)
    ·rw[eR]
     have:=I4.frame (o':= .lst (ys ++ [v'])) (q03 (H:=H) (a:=D0) (o:= .lst ys)) (fun ys z=>by cases z)
     rw[q8w]at this
     exact this
    ·rw[eR]
     refine((AV.tk tk).snoc an).tk (Kp.tk (xs:=[D0]) (Kp.put (by simp)) fun c hc ys' e=> ?_)
     simp at hc
     subst hc
     rw[hD4]at e
     cases e
  ·rintro σ ys H3 ⟨v,rfl,I3,AV⟩
   have e:ds.take (ad.map V.ref).length=ds:=by rw[List.length_map,SI.D.len,List.take_length]
   rw[e]at AV
   exact k D0 ys H3 hDH (I3.kp.get q03 nEm) AV ((Kp.new hDH).trans I3.kp)
def q5f (C Cd:Addr):Sp:=fun vs H Q _=>∃ (l ld:Addr) (b:Int) (as:List Addr) (Ts:List Tb) (ad:List Addr) (ds:List Deed) (n:Nat),vs=[.ref l,.int b,.ref ld]∧StoryIn H l ld as Ts ad ds n ∧
 ∀ r H',RnAt C Cd H H' r (runD (newR Ts b) ds).2 (n + ds.length)→Q (.ref r) H'
theorem qac:FnScope ["stocks","bound","deeds","runner","deed"] ["stocks","bound","deeds"] (q06 q6b):=⟨rfl,rfl,rfl,by decide +kernel,rfl,by decide +kernel,by decide +kernel⟩
theorem qej {f C Cd:Addr} {fd:FuncData} (Fn:Fun K "runner_after" "runner_after" q6b f fd) (DRunner:L2.Cd P w K mg base CX0 C 3 "Runner" ["self","stocks","bound"] (q9b C Cd)) (Danswer:Df P w K mg base CX0 10 "answer" ["runner","deed"] (q46 C Cd)):FnOk P w K mg base CX0 11 f fd ["stocks","bound","deeds"] (q5f C Cd):=by
 refine Fn.ok qac (fun vs H Q E h=> ?_) (fun cdv A outer s H vs Q E hr h=> ?_)
 ·obtain⟨l,ld,b,as,Ts,ad,ds,n,rfl,_⟩:=h
  rfl
 ·obtain⟨l,ld,b,as,Ts,ad,ds,n,rfl,SI,k⟩:=h
  have nd:=qac.nd
  have hz:=SI.z
  refine⟨_,(q01 (q0s (i:=3) nd rfl (Or.inl rfl) (qiy DRunner (hr.mono (by decide)) q0z (q00 (pv 0) (q00 (pv 1) q05))))
   (q01 (q2e PassesOwn.never rfl (q1l (pv 2)) (q0x (i:=4) nd rfl (Or.inl rfl))
   (q07 (q2a (q18 Danswer (hr.mono (by decide)) q0z (q00 (pv 3) (q00 (pv 4) q05))))))
   (q07 (q0a (pv 3))))),?_⟩
  refine⟨_,rfl,_,rfl,fun r dx hr0 hdx ndr=> ?_⟩
  have kp1:Kp [] H (upd (upd H dx (.own r)) r (.ins C dx [])):=fun c o e _=>by rw[q0b (q0d e hr0),q0b (q0d e hdx)];exact e
  refine⟨r,dx,l,b,as,Ts,H,n,rfl,q03,kp1,hr0,kp1.get SI.hl nEm,SI.S.same kp1,SI.ok,fun H2 I2=>⟨rfl,?_⟩⟩
  have ld2:(newR Ts b).desks.length≤900:=by simp[newR];exact SI.ok.z
  generalize hR:newR Ts b=R0 at I2 k ld2
  refine⟨_,rfl,ld,rfl,⟨_,SqL.of (I2.kp.get SI.hd nEm)⟩,?_⟩
  refine q25 (K:=K) (a:=ld) (xs:=ad.map V.ref) (fun i σ H3=>∃ v:Option V,σ=[some (.ref l),some (.int b),some (.ref ld),some (.ref r),v]∧RnAt C Cd H H3 r (runD R0 (ds.take i)).2 (n + i)) ⟨none,rfl,I2⟩ (fun i σ H3 _ ⟨_,_,I3⟩=>SqL.of (I3.kp.get SI.hd nEm)) ?_ ?_
  ·rintro i x σ H3 hx ⟨v,rfl,I3⟩
   rw[List.getElem?_map]at hx
   cases ea:ad[i]? with
   | none=>rw[ea]at hx;cases hx
   | some a =>
    rw[ea]at hx
    obtain rfl:V.ref a=x:=Option.some.inj hx
    have hi:i < ds.length:=by rw[← SI.D.len];exact(List.getElem?_eq_some_iff.mp ea).1
    have ed:ds[i]? = some ds[i]:=List.getElem?_eq_getElem hi
    have hdA:=(SI.D.at_ i a _ ea ed).same I3.kp
    have eR:=q34 R0 (ds.take i) ds[i]
    rw[← q27 ed]at eR
    have hdl:(runD R0 (ds.take i)).2.desks.length≤900:=by rw[(q2o R0 _).1];exact ld2
    refine⟨_,rfl,_,rfl,r,a,ds[i],_,_,n + i,rfl,hdA,I3,hdl,by omega,fun v' H4 I4 tk an=> ?_⟩
    refine⟨_,rfl,?_⟩
    rw[eR]
    exact I4
  ·rintro σ H3 ⟨v,rfl,I3⟩
   have e:ds.take (ad.map V.ref).length=ds:=by rw[List.length_map,SI.D.len,List.take_length]
   rw[List.length_map,SI.D.len,List.take_length]at I3
   exact⟨_,rfl,k r H3 I3⟩
end
end K07
end
section
namespace K07
open PySem L2
abbrev q4v:Stmt:=(top 18)
abbrev qbg:Stmt:=(top 21)
abbrev qbm:Stmt:=(top 19)
abbrev q4p:Stmt:=(top 20)
abbrev q6m:Stmt:=(top 22)
abbrev sAt:Stmt:=(top 26)
abbrev qb7:Stmt:=(top 27)
abbrev q65:Stmt:=(top 28)
abbrev q4w:Stmt:=(top 29)
abbrev q6a:Stmt:=(top 30)
abbrev q7v:Stmt:=(top 31)
abbrev q68:Stmt:=(top 32)
abbrev qbq:Stmt:=(top 33)
abbrev q4s:Stmt:=(top 34)
abbrev q6l:Stmt:=(top 25)
abbrev sLaw:Stmt:=(top 46)
abbrev qaw:Stmt:=(top 35)
abbrev q64:Stmt:=(top 36)
abbrev qau:Stmt:=(top 38)
abbrev q66:Stmt:=(top 37)
abbrev qb2:Stmt:=(top 39)
abbrev sSo:Stmt:=(top 24)
abbrev sNew:Stmt:=(top 40)
abbrev q6o:Stmt:=(top 41)
abbrev q4u:Stmt:=(top 42)
abbrev qbr:Stmt:=(top 43)
abbrev qbo:Stmt:=(top 44)
abbrev q6p:Stmt:=(top 45)
theorem q9o {α β:Type} {R:α→β→Prop} {as bs:List α} {cs ds:List β} (l:as.length=cs.length) (h1:∀ (i:Nat) a c,as[i]? = some a→cs[i]? = some c→R a c) (h2:∀ (i:Nat) a c,bs[i]? = some a→ds[i]? = some c→R a c) :
  ∀ (i:Nat) a c,(as ++ bs)[i]? = some a→(cs ++ ds)[i]? = some c→R a c:=by
 intro i a c e1 e2
 by_cases hi:i < as.length
 ·rw[List.getElem?_append_left hi]at e1
  rw[List.getElem?_append_left (by rw[← l];exact hi)]at e2
  exact h1 i a c e1 e2
 ·rw[List.getElem?_append_right (by omega)]at e1
  rw[List.getElem?_append_right (by omega),← l]at e2
  exact h2 _ a c e1 e2
theorem qah {α β:Type} {R:α→β→Prop} {a:α} {c:β} (h:R a c):∀ (i:Nat) a' c',[a][i]? = some a'→[c][i]? = some c'→R a' c':=by
 intro i a' c' e1 e2
 cases i with
 | zero=>simp at e1 e2;subst e1 e2;exact h
 | succ n=>simp at e1
theorem Stps.app {H:Hp} {as bs:List Addr} {ss ts:List Stp} (h:Stps H as ss) (h':Stps H bs ts):Stps H (as ++ bs) (ss ++ ts):=⟨by simp[h.len,h'.len],q9o (R:=fun a (s:Stp)=>H a=some (.tup s.vs)) h.len h.at_ h'.at_⟩
theorem Stps.one {H:Hp} {a:Addr} {s:Stp} (h:H a=some (.tup s.vs)):Stps H [a] [s]:=⟨rfl,qah (R:=fun a (s:Stp)=>H a=some (.tup s.vs)) h⟩
theorem Deeds.app {H:Hp} {as bs:List Addr} {ds es:List Deed} (h:Deeds H as ds) (h':Deeds H bs es):Deeds H (as ++ bs) (ds ++ es):=⟨by simp[h.len,h'.len],q9o (R:=q1y H) h.len h.at_ h'.at_⟩
theorem Deeds.one {H:Hp} {a:Addr} {d:Deed} (h:q1y H a d):Deeds H [a] [d]:=⟨rfl,qah (R:=q1y H) h⟩
theorem Deeds.nil (H:Hp):Deeds H [] []:=⟨rfl,fun i a s e=>by simp at e⟩
def del (H:Hp) (l:Addr):Hp:=fun b=>if b=l then none else H b
def nw (H H':Hp):Hp:=fun b=>if (H b).isSome=true then none else H' b
theorem q43 {H:Hp} {l b:Addr} {o:HO} (h:H b=some o) (n:b ≠ l):del H l b=some o:=by unfold del;rw[if_neg n];exact h
theorem q20 {H:Hp} {l:Addr} {o:HO}:del (upd H l o) l=del H l:=by
 funext b
 unfold del
 by_cases e:b=l
 ·rw[if_pos e,if_pos e]
 ·rw[if_neg e,if_neg e,q0b e]
theorem q2s {H:Hp} {l:Addr}:Kp [] (del H l) H:=fun b o e _=>by
 unfold del at e
 split at e
 ·cases e
 ·exact e
theorem Kp.dl {H H':Hp} {l:Addr} (k:Kp [] H H'):Kp [] (del H l) (del H' l):=fun b o e _=>by
 unfold del at e ⊢
 split at e
 ·cases e
 ·rename_i n
  rw[if_neg n]
  exact k.get e nEm
theorem Kp.dof {H H':Hp} {l:Addr} (k:Kp [] H H') (h:H l=none):Kp [] H (del H' l):=fun b o e _=>q43 (k.get e nEm) (q0d e h)
theorem q4r {H H':Hp} {b:Addr} {o:HO} (h:nw H H' b=some o):H b=none∧H' b=some o:=by
 unfold nw at h
 split at h
 ·cases h
 ·rename_i n
  refine⟨?_,h⟩
  cases e:H b with
  | none=>rfl
  | some u=>rw[e]at n;exact absurd rfl n
theorem q69 {H H':Hp} {b:Addr} {o:HO} (h:H' b=some o) (n:H b=none):nw H H' b=some o:=by unfold nw;rw[n];exact h
theorem qha {H H':Hp} {l:Addr} {u:HO} (h:H l=some u):Kp [] (nw H H') (del H' l):=fun b o e _=>q43 (q4r e).2 fun z=>by
 have:=(q4r e).1
 rw[z,h]at this
 cases this
theorem nw_l {H H1 H2:Hp} (k:Kp [] H H1):Kp [] (nw H1 H2) (nw H H2):=fun b o e _=>q69 (q4r e).2 (Kp.free k (q4r e).1)
theorem nw_r {H H1 H2:Hp} (k:Kp [] H1 H2):Kp [] (nw H H1) (nw H H2):=fun b o e _=>q69 (k.get (q4r e).2 (by simp)) (q4r e).1
theorem Kp.at_ {H H':Hp} {t:Addr} {o:HO} (k:Kp [] H H') (h:H t=none):Kp [] H (upd H' t o):=fun b u e _=>by rw[q0b (q0d e h)];exact k.get e nEm
theorem qd6 {H H2 Hc:Hp} {l t:Addr} {xs:List V} {o:HO} (kp:Kp [] H (del H2 l)) (hl:H2 l=some (.lst xs)) (k:Kp [] H2 Hc) (ht:H2 t=none) (hc:Hc t=some o):Hc l=some (.lst xs)∧Kp [] H (del Hc l)∧del Hc l t=some o :=
 ⟨k.get hl nEm,kp.trans (Kp.dl k),q43 hc fun z=>by rw[z,hl]at ht;cases ht⟩
theorem q5b (a b:Str):(a ++ b).length=a.length + b.length:=Array.size_append
theorem q7l {z:Str} {n:Int} (h0:0≤n) (h1:n≤9) (hz:z.length≤1):(repS z n).length≤9:=by
 unfold repS
 split
 ·exact Nat.zero_le _
 ·split
  ·omega
  ·show (Array.size _)≤9
   rw[q79]
   have e:z.cps.size=z.length:=rfl
   rw[e]
   simp
   have h2:n.toNat≤9:=by omega
   calc n.toNat * z.length≤9 * 1:=Nat.mul_le_mul h2 hz
    _=9:=rfl
section
variable {P:Program} {w:World} {K:PySem.W.Frag} {mg:Str→Option Value} {base:Heap}
def spAt (K:PySem.W.Frag):Sp:=fun vs H Q _=>∃ (a:Addr) (ns:List Int) (k:Nat),vs=[.ref a,.int k]∧SqL K H a (ns.map V.int)∧Q (.int (ns.getD k 0)) H
theorem qll:FnScope ["_law_script","_law_k"] ["_law_script","_law_k"] (q06 sAt):=⟨rfl,rfl,rfl,by decide +kernel,rfl,by decide +kernel,by decide +kernel⟩
theorem qln {f:Addr} {fd:FuncData} (Fn:Fun K "_law_at" "_law_at" sAt f fd) (B:Blt mg):FnOk P w K mg base CX0 1 f fd ["_law_script","_law_k"] (spAt K):=by
 refine Fn.ok qll (fun vs H Q E h=> ?_) (fun cdv A outer s H vs Q E hr h=> ?_)
 ·obtain⟨a,ns,k,rfl,_⟩:=h
  rfl
 ·obtain⟨a,ns,k,rfl,hS,q⟩:=h
  refine⟨_,(q01 (q0q (q0f q5n (pv 1) (q0e q0m rfl B.len PySem.boot_len (q00 (pv 0) q05)) (q0i _))
   (q07 (q0a (q0k q13 (pv 0) (pv 1) (fun _ _=>rfl))))
   q0c)
   (q07 (q0a q02))),?_⟩
  refine⟨_,rfl,_,rfl,a,_,rfl,.inl hS,_,_,rfl,rfl,_,rfl,?_⟩
  rw[List.length_map]
  refine ite2 (fun h=> ?_) (fun h=> ?_)
  ·have h':k < ns.length:=by have:=of_decide_eq_true h;omega
   refine⟨_,rfl,_,rfl,a,_,_,_,rfl,rfl,hS,q08 (j:=k) (v:= .int (ns.getD k 0)) ?_,q⟩
   rw[List.getElem?_map,List.getElem?_eq_getElem h',List.getD_eq_getElem?_getD,List.getElem?_eq_getElem h']
   rfl
  ·have h':ns.length≤k:=by
    have:¬ ((k:Int) < (ns.length:Int)):=fun z=>h (decide_eq_true z)
    omega
   have e:ns.getD k 0=0:=by rw[List.getD_eq_getElem?_getD,List.getElem?_eq_none_iff.mpr h'];rfl
   rw[e]at q
   exact q
theorem qgp {j:Int} (h0:0≤j) (h1:j < 6):∃ c,atI (("abcdef" : Str).cps.toList) j=some c:=by
 obtain⟨n,rfl⟩:∃ n:Nat,j=(n:Int):=⟨j.toNat,by omega⟩
 have hn:n < 6:=by omega
 match n,hn with
 | 0,_=>exact⟨_,rfl⟩
 | 1,_=>exact⟨_,rfl⟩
 | 2,_=>exact⟨_,rfl⟩
 | 3,_=>exact⟨_,rfl⟩
 | 4,_=>exact⟨_,rfl⟩
 | 5,_=>exact⟨_,rfl⟩
def spNm (g:Int→Int→Str):Sp:=fun vs H Q _=>∃ (j c:Int),vs=[.int j,.int c]∧0≤j∧j < 6∧1≤c∧c≤9∧∀ H',Kp [] H H'→Q (.str (g c j)) H'
def q4h (c j:Int):Str:=if c > 1 then (repS "n" (c % 5) ++ (⟨#[(atI (("abcdef" : Str).cps.toList) j).getD 0]⟩:Str)) ++ repS "n" (5 - c % 5) else ((["ann","an","","bo","b","annie"]:List Str)[j.toNat]?).getD ""
theorem qfe {c j:Int} {ch:Nat} (h:c > 1) (hc:atI (("abcdef" : Str).cps.toList) j=some ch):q4h c j=(repS "n" (c % 5) ++ (⟨#[ch]⟩:Str)) ++ repS "n" (5 - c % 5):=by unfold q4h;rw[if_pos h,hc];rfl
theorem qfl {c j:Int} {x:Str} (h:¬ c > 1) (hx:(["ann","an","","bo","b","annie"]:List Str)[j.toNat]? = some x):q4h c j=x:=by unfold q4h;rw[if_neg h,hx];rfl
def q5a (c:Int):List Str:=(List.range 6).map (fun (j:Nat)=>q4h c j) ++ [("nobody" : Str)]
theorem q5i (c:Int) {j:Int} (h0:0≤j) (h1:j < 6):q4h c j ∈ q5a c:=by
 unfold q5a
 rw[List.mem_append,List.mem_map]
 exact .inl ⟨j.toNat,List.mem_range.mpr (by omega),by rw[show ((j.toNat:Nat):Int)=j by omega]⟩
theorem qif:FnScope ["_law_j","_law_count"] ["_law_j","_law_count"] (q06 qb7):=⟨rfl,rfl,rfl,by decide +kernel,rfl,by decide +kernel,by decide +kernel⟩
theorem qj3 {f:Addr} {fd:FuncData} (Fn:Fun K "_law_work_called" "_law_work_called" qb7 f fd):FnOk P w K mg base CX0 1 f fd ["_law_j","_law_count"] (spNm q4h):=by
 refine Fn.ok qif (fun vs H Q E h=> ?_) (fun cdv A outer s H vs Q E hr h=> ?_)
 ·obtain⟨j,c,rfl,_⟩:=h
  rfl
 ·obtain⟨j,c,rfl,h0,h1,h2,h3,q⟩:=h
  refine⟨_,(q01 (q0q (q0f qiu (pv 1) q02 (q0i _))
   (q07 (q0a (q0l q3h (q0l q3h (q0l q7a q09 (q0l q12 (pv 1) q02)) (q0k qgr q09 (pv 0) (fun _ _=>rfl))) (q0l q7a q09 (q0l q4j q02 (q0l q12 (pv 1) q02))))))
   q0c)
   (q07 (q0a (q0k q13 (q1t (q00 q09 (q00 q09 (q00 q09 (q00 q09 (q00 q09 (q00 q09 q05))))))) (pv 0) (fun _ _=>rfl))))),?_⟩
  refine⟨_,rfl,_,_,rfl,rfl,_,rfl,ite2 (fun h=> ?_) (fun h=> ?_)⟩
  ·obtain⟨ch,hch⟩:=qgp h0 h1
   have m0:=Int.emod_nonneg c (show (5:Int) ≠ 0 by decide)
   have m1:=Int.emod_lt_of_pos c (show (0:Int) < 5 by decide)
   have r1:=q7l (z:= "n") m0 (by omega) (by decide)
   have r2:=q7l (z:= "n") (n:=5 - c % 5) (by omega) (by omega) (by decide)
   have e1:(Str.length (⟨#[ch]⟩:Str))=1:=rfl
   have big:∀ {n:Nat},n≤900→n≤sizeLine:=fun h=>Nat.le_of_lt (q0n h)
   refine⟨_,rfl,_,_,rfl,rfl,(by show (0:Int) < _;decide),_,_,rfl,rfl,by omega,by omega,by decide,_,rfl,_,_,ch,rfl,rfl,by decide,hch,_,_,rfl,rfl,big (by rw[e1];omega),_,rfl,_,_,rfl,rfl,(by show (0:Int) < _;decide),_,_,rfl,rfl,_,_,rfl,rfl,by omega,by omega,by decide,_,_,rfl,rfl,big (by rw[q5b,e1];omega),by have z:=q _ (Kp.refl _ _);rw[qfe (of_decide_eq_true h) hch]at z;exact z⟩
  ·refine⟨(by show 6≤sizeLine;decide),fun l hl=>⟨_,rfl,q53 V.str ["ann","an","","bo","b","annie"] hl h0 (by show _ < (6:Int);exact h1) fun x H1 ex k1=>by have z:=q H1 k1;rw[qfl (fun z=>h (decide_eq_true z)) ex]at z;exact z⟩⟩
def kvOf (rows:List (Str×Int)):Tb:=rows.map fun q=>((Sum.inr q.1:Key),V.int q.2)
def q6n (c j:Int):Str:=if c > 2 then (repS "o" (c % 4) ++ (⟨#[(atI (("abcdef" : Str).cps.toList) j).getD 0]⟩:Str)) ++ repS "o" (5 - c % 4) else ((["oats","oat","salt","oatsy","oats ",""]:List Str)[j.toNat]?).getD ""
theorem qd8 {c j:Int} {ch:Nat} (h:c > 2) (hc:atI (("abcdef" : Str).cps.toList) j=some ch):q6n c j=(repS "o" (c % 4) ++ (⟨#[ch]⟩:Str)) ++ repS "o" (5 - c % 4):=by unfold q6n;rw[if_pos h,hc];rfl
theorem qde {c j:Int} {x:Str} (h:¬ c > 2) (hx:(["oats","oat","salt","oatsy","oats ",""]:List Str)[j.toNat]? = some x):q6n c j=x:=by unfold q6n;rw[if_neg h,hx];rfl
def q1s (c:Int):List Str:=(List.range 6).map fun (j:Nat)=>q6n c j
theorem q51 {c j:Int} {x:Str} (h0:0≤j) (h1:j < 6) (e:q6n c j=x):x ∈ q1s c:=by
 unfold q1s
 rw[List.mem_map]
 exact⟨j.toNat,List.mem_range.mpr (by omega),by rw[show ((j.toNat:Nat):Int)=j by omega];exact e⟩
def spTh:Sp:=fun vs H Q _=>∃ (j c:Int),vs=[.int j,.int c]∧0≤j∧j < 6∧1≤c∧c≤9∧∀ x H',x ∈ q1s c→Kp [] H H'→Q (.str x) H'
def TbG (c:Int) (p:Int→Prop) (T:Tb):Prop:=∃ rows:List (Str×Int),T=kvOf rows∧(∀ q ∈ rows,q.1 ∈ q1s c∧p q.2)∧(rows.map (·.1)).Nodup
def TbW (c:Int) (T:Tb):Prop:=TbG c (fun i=>0≤i) T
theorem TbW.nil {c:Int}:TbW c []:=⟨[],rfl,fun q h=>by simp at h,List.nodup_nil⟩
theorem qhh (rows:List (Str×Int)) (x:Str) (i:Int):putK (kvOf rows) (Sum.inr x:Key) (.int i)=kvOf (if (rows.any fun q=>decide (q.1=x))=true then rows.map (fun q=>if q.1=x then (q.1,i) else q) else rows ++ [(x,i)]):=by
 have inj:∀ q:Str×Int,decide ((Sum.inr q.1:Key)=Sum.inr x)=decide (q.1=x):=fun q=>decide_eq_decide.mpr ⟨fun z=>by injection z,fun z=>by rw[z]⟩
 unfold putK kvOf
 have ea:((rows.map fun q=>((Sum.inr q.1:Key),V.int q.2)).any fun kv=>decide (kv.1=(Sum.inr x:Key)))=rows.any fun q=>decide (q.1=x):=by
  rw[List.any_map]
  exact congrArg (fun f=>rows.any f) (funext inj)
 rw[ea]
 by_cases h:(rows.any fun q=>decide (q.1=x))=true
 ·rw[if_pos h,if_pos h,List.map_map,List.map_map]
  refine List.map_congr_left fun q _=> ?_
  show (if (Sum.inr q.1:Key)=Sum.inr x then ((Sum.inr q.1:Key),V.int i) else ((Sum.inr q.1:Key),V.int q.2))=_
  by_cases e:q.1=x
  ·rw[if_pos (by rw[e])]
   show _=(fun (q:Str×Int)=>((Sum.inr q.1:Key),V.int q.2)) (if q.1=x then (q.1,i) else q)
   rw[if_pos e]
  ·rw[if_neg (fun z=>e (by injection z))]
   show _=(fun (q:Str×Int)=>((Sum.inr q.1:Key),V.int q.2)) (if q.1=x then (q.1,i) else q)
   rw[if_neg e]
 ·rw[if_neg h,if_neg h,List.map_append]
  rfl
theorem TbG.put {c:Int} {p:Int→Prop} {T:Tb} (h:TbG c p T) {x:Str} {i:Int} (hx:x ∈ q1s c) (hi:p i):TbG c p (putK T (Sum.inr x:Key) (.int i)):=by
 obtain⟨rows,rfl,hr,nd⟩:=h
 refine⟨_,qhh rows x i,fun q hq=> ?_,?_⟩
 ·split at hq
  ·obtain⟨q',h1,rfl⟩:=List.mem_map.mp hq
   by_cases e:q'.1=x
   ·rw[if_pos e];exact⟨by rw[e];exact hx,hi⟩
   ·rw[if_neg e];exact hr q' h1
  ·rw[List.mem_append]at hq
   rcases hq with z | z
   ·exact hr q z
   ·simp at z;subst z;exact⟨hx,hi⟩
 ·split
  ·have e:(rows.map fun q=>if q.1=x then (q.1,i) else q).map (·.1)=rows.map (·.1):=by
    rw[List.map_map]
    refine List.map_congr_left fun q _=> ?_
    show (if q.1=x then (q.1,i) else q).1=q.1
    split <;> rfl
   rw[e];exact nd
  ·rename_i hn
   rw[List.map_append,List.nodup_append]
   refine⟨nd,by simp,fun a ha b hb e=>hn ?_⟩
   simp at hb
   obtain⟨q,hq,rfl⟩:=List.mem_map.mp ha
   exact List.any_eq_true.mpr ⟨q,hq,decide_eq_true (e.trans hb)⟩
theorem TbW.put {c:Int} {T:Tb} (h:TbW c T) {x:Str} {i:Int} (hx:x ∈ q1s c) (hi:0≤i):TbW c (putK T (Sum.inr x:Key) (.int i)):=TbG.put h hx hi
theorem qen:FnScope ["_law_j","_law_count"] ["_law_j","_law_count"] (q06 q65):=⟨rfl,rfl,rfl,by decide +kernel,rfl,by decide +kernel,by decide +kernel⟩
theorem qeq {f:Addr} {fd:FuncData} (Fn:Fun K "_law_thing_called" "_law_thing_called" q65 f fd):FnOk P w K mg base CX0 1 f fd ["_law_j","_law_count"] spTh:=by
 refine Fn.ok qen (fun vs H Q E h=> ?_) (fun cdv A outer s H vs Q E hr h=> ?_)
 ·obtain⟨j,c,rfl,_⟩:=h
  rfl
 ·obtain⟨j,c,rfl,h0,h1,h2,h3,q⟩:=h
  refine⟨_,(q01 (q0q (q0f qiu (pv 1) q02 (q0i _))
   (q07 (q0a (q0l q3h (q0l q3h (q0l q7a q09 (q0l q12 (pv 1) q02)) (q0k qgr q09 (pv 0) (fun _ _=>rfl))) (q0l q7a q09 (q0l q4j q02 (q0l q12 (pv 1) q02))))))
   q0c)
   (q07 (q0a (q0k q13 (q1t (q00 q09 (q00 q09 (q00 q09 (q00 q09 (q00 q09 (q00 q09 q05))))))) (pv 0) (fun _ _=>rfl))))),?_⟩
  refine⟨_,rfl,_,_,rfl,rfl,_,rfl,ite2 (fun h=> ?_) (fun h=> ?_)⟩
  ·obtain⟨ch,hch⟩:=qgp h0 h1
   have m0:=Int.emod_nonneg c (show (4:Int) ≠ 0 by decide)
   have m1:=Int.emod_lt_of_pos c (show (0:Int) < 4 by decide)
   have r1:=q7l (z:= "o") m0 (by omega) (by decide)
   have r2:=q7l (z:= "o") (n:=5 - c % 4) (by omega) (by omega) (by decide)
   have e1:(Str.length (⟨#[ch]⟩:Str))=1:=rfl
   have big:∀ {n:Nat},n≤900→n≤sizeLine:=fun h=>Nat.le_of_lt (q0n h)
   refine⟨_,rfl,_,_,rfl,rfl,(by show (0:Int) < _;decide),_,_,rfl,rfl,by omega,by omega,by decide,_,rfl,_,_,ch,rfl,rfl,by decide,hch,_,_,rfl,rfl,big (by rw[e1];omega),_,rfl,_,_,rfl,rfl,(by show (0:Int) < _;decide),_,_,rfl,rfl,_,_,rfl,rfl,by omega,by omega,by decide,_,_,rfl,rfl,big (by rw[q5b,e1];omega),q _ _ (q51 h0 h1 (qd8 (of_decide_eq_true h) hch)) (Kp.refl _ _)⟩
  ·refine⟨(by show 6≤sizeLine;decide),fun l hl=>⟨_,rfl,q53 V.str ["oats","oat","salt","oatsy","oats ",""] hl h0 (by show _ < (6:Int);exact h1) fun x H1 ex k1=>q x H1 (q51 h0 h1 (qde (fun z=>h (decide_eq_true z)) ex)) k1⟩⟩
def qa1:Sp:=fun vs H Q _=>∃ (cell:Int) (c:Nat),vs=[.int cell,.int c]∧1≤c∧c≤9∧∀ p as Ts H',H p=none→H' p=some (.lst (as.map V.ref))→Stocks H' as Ts→StOk Ts 4→(∀ T ∈ Ts,TbW c T)→Ts.length=c→Kp [] H H'→Q (.ref p) H'
theorem q7w:FnScope ["_law_cell","_law_count","_law_rows","_law_k","_law_things","_law_some"] ["_law_cell","_law_count"] (q06 q4w):=⟨rfl,rfl,rfl,by decide +kernel,rfl,by decide +kernel,by decide +kernel⟩
theorem q1r.nil:q1r []:=fun k v e=>by cases e
theorem qdg {f:Addr} {fd:FuncData} (Fn:Fun K "_law_stocks_of" "_law_stocks_of" q4w f fd) (B:Blt mg) (Dlaw_thing_called:Df P w K mg base CX0 1 "_law_thing_called" ["_law_j","_law_count"] spTh):FnOk P w K mg base CX0 2 f fd ["_law_cell","_law_count"] qa1:=by
 refine Fn.ok q7w (fun vs H Q E h=> ?_) (fun cdv A outer s H vs Q E hr h=> ?_)
 ·obtain⟨cell,c,rfl,_⟩:=h
  rfl
 ·obtain⟨cell,c,rfl,h1,h9,q⟩:=h
  have nd:=q7w.nd
  have hu:=q3f hr
  refine⟨_,(q01 (q0s (i:=2) nd rfl (Or.inl rfl) (q1t q05))
   (q01 (q2e PassesOwn.never rfl (q2h rfl B.range (q00 (pv 1) q05)) (q0x (i:=3) nd rfl (Or.inl rfl))
   (q01 (q0s (i:=4) nd rfl (Or.inl rfl) (qd3 (q47 (q18 Dlaw_thing_called (hr.mono (by decide)) q0z (q00 q02 (q00 (pv 1) q05))) (q0l q12 (q0l q12 (q0l q1q (q0l q38 (pv 0) (q0l q24 (pv 3) q02)) q02) q02) q02) qc5) rfl rfl (by simp) (by decide)))
   (q01 (q1e hu (pv 4) (q18 Dlaw_thing_called (hr.mono (by decide)) q0z (q00 q02 (q00 (pv 1) q05))) (q0l q12 (q0l q12 (q0l q1q (q0l q38 (pv 0) (q0l q24 (q0l q1q q02 (pv 3)) q02)) q02) q02) q02) rfl)
   (q01 (q1e hu (pv 4) (q18 Dlaw_thing_called (hr.mono (by decide)) q0z (q00 q02 (q00 (pv 1) q05))) (q0l q12 (q0l q12 (q0l q1q (q0l q38 (pv 0) (q0l q24 (q0l q1q q02 (pv 3)) q02)) q02) q02) q02) rfl)
   (q01 (q0s (i:=5) nd rfl (Or.inl rfl) (q1t (q00 q02 (q00 q02 (q00 q02 q05)))))
   (q01 (q1e hu (pv 4) (q18 Dlaw_thing_called (hr.mono (by decide)) q0z (q00 q02 (q00 (pv 1) q05))) (q0k q13 (pv 5) (q0l q12 (q0l q12 (q0l q1q (q0l q38 (pv 0) (q0l q24 (pv 3) q02)) q02) q02) q02) (fun _ _=>rfl)) rfl)
   (q07 (q2a (q52 PySem.F.plainAttrs_list PySem.F.slot_list_append PySem.F.type_list_append q1o (pv 2) (q00 (pv 4) q05))))))))))
   (q07 (q0a (pv 2))))),?_⟩
  refine⟨(by show 0≤sizeLine;decide),fun sl hsl=> ?_⟩
  refine⟨_,rfl,_,rfl,(by omega),(by omega),?_⟩
  refine q26 (lo:=0) (n:=((c:Int)).toNat) (fun i σ H2=>∃ (v3 v4 v5:Option V) (as:List Addr) (Ts:List Tb),σ=[some (.int cell),some (.int c),some (.ref sl),v3,v4,v5]∧Stocks (del H2 sl) as Ts∧Ts.length=i∧(∀ T ∈ Ts,(q1r T∧TbW c T)∧T.length≤4)∧H2 sl=some (.lst (as.map V.ref))∧Kp [] H (del H2 sl)) ?_ ?_ ?_
  ·exact⟨none,none,none,[],[],rfl,⟨rfl,fun i a T e=>by simp at e⟩,rfl,fun T hT=>by simp at hT,q03,by rw[q20];exact Kp.dof (Kp.refl _ _) hsl⟩
  ·rintro i σ H2 hi ⟨v3,v4,v5,as,Ts,rfl,S,lT,ok,hl,kp⟩
   have hi9:i < 9:=by omega
   refine fun t ht=>⟨_,rfl,0,c,rfl,by decide,by decide,by omega,by omega,fun x0 H3 hx0 k3=>⟨_,rfl,_,rfl,_,_,rfl,rfl,_,_,rfl,rfl,(by show (0:Int) < _∧_ < (1073741824:Int);omega),_,_,rfl,rfl,.inr ⟨by decide,by decide⟩,_,_,rfl,rfl,(by show (0:Int) < _;decide),_,_,rfl,rfl,(by show (0:Int) < _;decide),k3.get q03 nEm,[(Sum.inr x0,_)],rfl,(by show 1≤15;decide),?_⟩⟩
   refine abs (fun H4=>Kp [] H2 H4∧∃ T,H4 t=some (.dK T)∧(q1r T∧TbW c T)∧T.length≤1) ⟨Kp.at_ ((Kp.new ht).trans k3) ht,_,q03,⟨q1r.nil.put _ _,TbW.nil.put hx0 (Int.emod_nonneg _ (by decide))⟩,?_⟩ ?_
   ·exact Nat.le_refl 1
   rintro H4 ⟨k4,T4,ht4,i4,l4⟩
   have big:∀ {n:Nat},n≤900→n < sizeLine:=q0n
   refine⟨_,rfl,_,rfl,_,_,rfl,rfl,.inl ⟨by decide,by decide⟩,_,_,rfl,rfl,_,_,rfl,rfl,(by show (0:Int) < _∧_ < (1073741824:Int);omega),_,_,rfl,rfl,.inr ⟨by decide,by decide⟩,_,_,rfl,rfl,(by show (0:Int) < _;decide),_,_,rfl,rfl,(by show (0:Int) < _;decide),_,rfl,_,rfl,1,c,rfl,by decide,by decide,by omega,by omega,fun x1 H5 hx1 k5=>⟨t,_,rfl,.inl ⟨_,Sum.inr x1,k5.get ht4 nEm,rfl,big (by omega),rfl⟩,?_⟩⟩
   refine abs (fun H6=>Kp [] H2 H6∧∃ T,H6 t=some (.dK T)∧(q1r T∧TbW c T)∧T.length≤2) ⟨Kp.at_ (k4.trans k5) ht,_,q03,⟨i4.1.put _ _,i4.2.put hx1 (Int.emod_nonneg _ (by decide))⟩,?_⟩ ?_
   ·exact Nat.le_trans (q0o _ _ _) (by omega)
   rintro H6 ⟨k6,T6,ht6,i6,l6⟩
   refine⟨_,rfl,_,rfl,_,_,rfl,rfl,.inl ⟨by decide,by decide⟩,_,_,rfl,rfl,_,_,rfl,rfl,(by show (0:Int) < _∧_ < (1073741824:Int);omega),_,_,rfl,rfl,.inr ⟨by decide,by decide⟩,_,_,rfl,rfl,(by show (0:Int) < _;decide),_,_,rfl,rfl,(by show (0:Int) < _;decide),_,rfl,_,rfl,3,c,rfl,by decide,by decide,by omega,by omega,fun x2 H7 hx2 k7=>⟨t,_,rfl,.inl ⟨_,Sum.inr x2,k7.get ht6 nEm,rfl,big (by omega),rfl⟩,?_⟩⟩
   refine abs (fun H8=>Kp [] H2 H8∧∃ T,H8 t=some (.dK T)∧(q1r T∧TbW c T)∧T.length≤3) ⟨Kp.at_ (k6.trans k7) ht,_,q03,⟨i6.1.put _ _,i6.2.put hx2 (Int.emod_nonneg _ (by decide))⟩,?_⟩ ?_
   ·exact Nat.le_trans (q0o _ _ _) (by omega)
   rintro H8 ⟨k8,T8,ht8,i8,l8⟩
   refine⟨(by show 3≤sizeLine;decide),fun so hso=> ?_⟩
   have ns:so ≠ t:=fun z=>by rw[z,ht8]at hso;cases hso
   refine abs (fun H9=>Kp [] H2 H9∧H9 t=some (.dK T8)∧H9 so=some (.lst (([0,3,100000000000000000000]:List Int).map V.int))) ⟨k8.trans (Kp.new hso),by rw[q0b (Ne.symm ns)];exact ht8,q03⟩ ?_
   rintro H9 ⟨k9,ht9,hso9⟩
   have ip:=q5r (cell / (0 + (i:Int) + 5) * 48271) 1019 3 (by decide) (by decide)
   obtain⟨v,hv1,hv2⟩:=qjq (xs:=([0,3,100000000000000000000]:List Int).map V.int) ip.1 (by show _ < (3:Int);exact ip.2)
   rw[List.getElem?_map]at hv2
   obtain⟨m,hm,rfl⟩:=Option.map_eq_some_iff.mp hv2
   refine⟨_,rfl,_,rfl,_,rfl,_,_,rfl,rfl,_,_,rfl,rfl,(by show (0:Int) < _∧_ < (1073741824:Int);omega),_,_,rfl,rfl,.inr ⟨by decide,by decide⟩,_,_,rfl,rfl,(by show (0:Int) < _;decide),_,_,rfl,rfl,(by show (0:Int) < _;decide),so,_,_,_,rfl,rfl,SqL.of hso9,hv1,_,rfl,_,rfl,2,c,rfl,by decide,by decide,by omega,by omega,fun x3 H10 hx3 k10=>⟨t,_,rfl,.inl ⟨_,Sum.inr x3,k10.get ht9 nEm,rfl,big (by omega),rfl⟩,?_⟩⟩
   refine abs (fun H11=>Kp [] H2 H11∧∃ T,H11 t=some (.dK T)∧(q1r T∧TbW c T)∧T.length≤4) ⟨Kp.at_ (k9.trans k10) ht,_,q03,⟨i8.1.put _ _,i8.2.put hx3 (by have:=List.mem_of_getElem? hm;simp at this;omega)⟩,?_⟩ ?_
   ·exact Nat.le_trans (q0o _ _ _) (by omega)
   rintro H11 ⟨k11,T,ht11,i11,l11⟩
   obtain⟨hl11,kp11,hd11⟩:=qd6 kp hl k11 ht ht11
   refine⟨_,rfl,.inl ⟨rfl,_,SqL.of hl11⟩,_,rfl,sl,_,_,rfl,rfl,hl11,(by rw[List.length_map,S.len];exact big (by omega)),?_⟩
   refine⟨_,_,_,as ++ [t],Ts ++ [T],rfl,?_,by simp[lT],?_,by rw[q03,List.map_append];rfl,by rw[q20];exact kp11⟩
   ·rw[q20]
    exact⟨by simp[S.len],q9o (R:=fun a (T:Tb)=>del H11 sl a=some (.dK T)) S.len (S.same (Kp.dl k11)).at_ (qah (R:=fun a (T:Tb)=>del H11 sl a=some (.dK T)) hd11)⟩
   ·intro T' hT'
    rw[List.mem_append]at hT'
    rcases hT' with z | z
    ·exact ok T' z
    ·simp at z
     subst z
     exact⟨i11,l11⟩
  ·rintro σ H2 ⟨v3,v4,v5,as,Ts,rfl,S,lT,ok,hl,kp⟩
   have lT':Ts.length=c:=by rw[lT];omega
   exact⟨_,rfl,q sl as Ts H2 hsl hl (S.same q2s) ⟨fun T hT=>(ok T hT).1.1,fun T hT=>(ok T hT).2,by omega⟩ (fun T hT=>(ok T hT).1.2) lT' (kp.trans q2s)⟩
end
end K07
end
section
namespace K07
open PySem L2
theorem qcf {K:PySem.W.Frag} {te:TE} {σ:St} {H:Hp} {Q:VK} {j:Nat} {sl:Addr} {sas:List Addr} {Ts:List Tb} (hv:σ[j]? = some (some (.ref sl))) (hl:H sl=some (.lst (sas.map V.ref))) (S:Stocks H sas Ts) (hz:Ts.length≤900)
  (hte:∀ σ H Q a kvs,σ[0]? = some (some (V.ref a))→H a=some (.dK kvs)→(∀ p,H p=none→Q (.ref p) (upd H p (.dK kvs)))→te σ H Q)
  (k:∀ p cas H',H p=none→H' p=some (.lst (cas.map V.ref))→Stocks H' cas Ts→Kp [] H H'→(cas.Nodup∧∀ a ∈ cas,H a=none)→Q (.ref p) H'):qax (qee K (tVar j)) [none] (qct 0) qcy te σ H Q:=by
 refine q4e hv (SqL.of hl) fun D0 hD=>⟨(fun i σ ys H2=>∃ (v0:Option V) (cas:List Addr),σ=[v0]∧ys=cas.map V.ref∧Stocks H2 cas (Ts.take i)∧(cas.Nodup∧∀ a ∈ cas,H a=none)∧Kp [] H H2∧H2 D0=some (.lst ys)),?_,?_,?_,?_⟩
 ·exact⟨none,[],rfl,rfl,⟨rfl,fun i a T e=>by simp at e⟩,⟨List.nodup_nil,by simp⟩,Kp.new hD,q03⟩
 ·rintro i σ ys H2 hi ⟨v0,cas,rfl,ey,St,nw,kp,hy⟩
  exact⟨SqL.of (kp.get hl nEm),hy⟩
 ·rintro i x σ ys H2 hx ⟨v0,cas,rfl,ey,St,nw,kp,hy⟩
  rw[List.getElem?_map]at hx
  cases ea:sas[i]? with
  | none=>rw[ea]at hx;cases hx
  | some a =>
   rw[ea]at hx
   obtain rfl:V.ref a=x:=Option.some.inj hx
   have hi:i < Ts.length:=by rw[← S.len];exact(List.getElem?_eq_some_iff.mp ea).1
   have eT:Ts[i]? = some Ts[i]:=List.getElem?_eq_getElem hi
   refine hte _ _ _ a Ts[i] rfl (kp.get (S.at_ i a _ ea eT) nEm) fun p hp=> ?_
   have kb:Kp [] H2 (upd H2 p (.dK Ts[i])):=Kp.new hp
   have hyb:=kb.get hy nEm
   have nD:∀ {c:Addr} {T:Tb},(upd H2 p (.dK Ts[i])) c=some (.dK T)→(upd (upd H2 p (.dK Ts[i])) D0 (.lst (ys ++ [V.ref p]))) c=some (.dK T):=fun {c T} e=>by
    rw[q0b (q30 e hyb (by intro z;cases z))];exact e
   refine⟨hyb,?_,_,cas ++ [p],rfl,by rw[ey,List.map_append];rfl,?_,?_,?_,q03⟩
   ·rw[ey,List.length_map,St.len,List.length_take];exact q0n (by omega)
   ·rw[List.take_add_one,eT]
    refine⟨by rw[List.length_append,List.length_append,St.len];rfl,q9o (R:=fun c (T:Tb)=>(upd (upd H2 p (.dK Ts[i])) D0 (.lst (ys ++ [V.ref p]))) c=some (.dK T)) St.len (fun i c T e1 e2=>nD (kb.get (St.at_ i c T e1 e2) nEm)) (qah (R:=fun c (T:Tb)=>(upd (upd H2 p (.dK Ts[i])) D0 (.lst (ys ++ [V.ref p]))) c=some (.dK T)) (nD q03))⟩
   ·refine⟨?_,fun c hc=> ?_⟩
    ·rw[List.nodup_append]
     refine⟨nw.1,by simp,fun c hc d hd e=> ?_⟩
     simp at hd
     obtain⟨n,en⟩:=List.mem_iff_getElem?.mp hc
     have hn:n < (Ts.take i).length:=by rw[← St.len];exact(List.getElem?_eq_some_iff.mp en).1
     have:=St.at_ n c _ en (List.getElem?_eq_getElem hn)
     rw[e,hd,hp]at this
     cases this
    ·rcases List.mem_append.mp hc with z | z
     ·exact nw.2 c z
     ·simp at z;subst z;exact kp.free hp
   ·intro c o e hn
    rw[q0b (q0d e hD)]
    exact(kp.trans kb) c o e hn
 ·rintro σ ys H2 ⟨v0,cas,rfl,ey,St,nw,kp,hy⟩
  rw[List.length_map,S.len,List.take_length]at St
  subst ey
  exact k D0 cas H2 hD hy St kp nw
section
variable {P:Program} {w:World} {K:PySem.W.Frag} {mg:Str→Option Value} {base:Heap}
def qeh (c:Int) (ss:List Stp):Prop:=ss.length≤12∧(∀ s ∈ ss,0≤s.d∧s.d < c)∧∀ s ∈ ss,s.x ∈ q1s c∧0≤s.n
def q5m (c:Int):Deed→Prop
 | .start x ss=>x ∈ q5a c∧qeh c ss
 | .go _ l=>l= "ok" ∨ l= "lost" ∨ l= "deaf"
 | .fill _ x n=>x ∈ q1s c∧0≤n
 | .late i=>0≤i
 | _=>True
def q8z:Sp:=fun vs H Q _=>∃ (cell c:Int),vs=[.int cell,.int c]∧1≤c∧c≤9∧∀ p as ss H',nw H H' p=some (.lst (as.map V.ref))→Stps (nw H H') as ss→qeh c ss→Kp [] H H'→Q (.ref p) H'
theorem qak:FnScope ["_law_cell","_law_count","_law_steps","_law_j","_law_thing","_law_desk","_law_many"] ["_law_cell","_law_count"] (q06 q6a):=⟨rfl,rfl,rfl,by decide +kernel,rfl,by decide +kernel,by decide +kernel⟩
theorem Stps.kp {H H':Hp} {as:List Addr} {ss:List Stp} (h:Stps H as ss) (k:Kp [] H H'):Stps H' as ss:=h.tk (Kp.tk k (by simp))
theorem q1y.kp {H H':Hp} {a:Addr} {d:Deed} (h:q1y H a d) (k:Kp [] H H'):q1y H' a d:=h.same k
theorem qf8 {f:Addr} {fd:FuncData} (Fn:Fun K "_law_steps_of" "_law_steps_of" q6a f fd) (B:Blt mg) (Dlaw_thing_called:Df P w K mg base CX0 1 "_law_thing_called" ["_law_j","_law_count"] spTh):FnOk P w K mg base CX0 2 f fd ["_law_cell","_law_count"] q8z:=by
 refine Fn.ok qak (fun vs H Q E h=> ?_) (fun cdv A outer s H vs Q E hr h=> ?_)
 ·obtain⟨cell,c,rfl,_⟩:=h
  rfl
 ·obtain⟨cell,c,rfl,h1,h9,q⟩:=h
  have nd:=qak.nd
  refine⟨_,(q01 (q0s (i:=2) nd rfl (Or.inl rfl) (q1t q05))
   (q01 (q2e PassesOwn.never rfl (q2h rfl B.range (q00 (q0k q13 (q1t (q00 q02 (q00 q02 (q00 q02 (q00 q02 (q00 q02 (q00 q02 (q00 q02 (q00 q02 q05))))))))) (q0l q12 (q0l q12 (q0l q1q (pv 0) q02) q02) q02) (fun _ _=>rfl)) q05)) (q0x (i:=3) nd rfl (Or.inl rfl))
   (q01 (q0s (i:=4) nd rfl (Or.inl rfl) (q18 Dlaw_thing_called (hr.mono (by decide)) q0z (q00 (q0l q12 (q0l q12 (q0l q1q (q0l q38 (pv 0) (q0l q24 (q0l q1q q02 (pv 3)) q02)) q02) q02) q02) (q00 (pv 1) q05))))
   (q01 (q0s (i:=5) nd rfl (Or.inl rfl) (q0l q12 (q0l q12 (q0l q1q (q0l q24 (q0l q38 (pv 0) (q0l q24 (pv 3) q02)) (pv 3)) q02) q02) (pv 1)))
   (q01 (q0s (i:=6) nd rfl (Or.inl rfl) (q0l q12 (q0l q12 (q0l q1q (q0l q38 (pv 0) (q0l q24 (pv 3) q02)) q02) q02) q02))
   (q01 (q0q (q0f q1i (q0l q12 (q0l q12 (q0l q1q (q0l q38 (pv 0) (q0l q24 (pv 3) q02)) q02) q02) q02) q02 (q0i _))
   (q07 (q0s (i:=6) nd rfl (Or.inl rfl) (q0k q13 (q1t (q00 q02 (q00 q02 q05))) (q0l q12 (q0l q12 (q0l q1q (pv 0) q02) q02) q02) (fun _ _=>rfl))))
   q0c)
   (q07 (q2a (q52 PySem.F.plainAttrs_list PySem.F.slot_list_append PySem.F.type_list_append q1o (pv 2) (q00 (q19 (q00 (pv 5) (q00 (pv 4) (q00 (pv 6) q05)))) q05)))))))))
   (q07 (q0a (pv 2))))),?_⟩
  refine⟨(by show 0≤sizeLine;decide),fun sl hsl=> ?_⟩
  refine abs (fun H1=>Kp [] H (del H1 sl)∧H1 sl=some (.lst ([]:List V))) ⟨by rw[q20];exact Kp.dof (Kp.refl _ _) hsl,q03⟩ ?_
  rintro H1 ⟨kp1,hl1⟩
  refine⟨(by show 8≤sizeLine;decide),fun l hl=>⟨_,rfl,_,_,rfl,rfl,.inr ⟨by decide,by decide⟩,_,_,rfl,rfl,(by show (0:Int) < _;decide),_,_,rfl,rfl,(by show (0:Int) < _;decide),q53 V.int [0,1,2,3,4,1,2,12] hl (Int.emod_nonneg _ (by decide)) (by show _ < (8:Int);exact Int.emod_lt_of_pos _ (by decide)) fun m H2 em k2=> ?_⟩⟩
  have hm:0≤m∧m≤12:=by
   have:=List.mem_of_getElem? em
   simp at this
   omega
  refine⟨_,rfl,(by omega),(by omega),?_⟩
  refine q26 (lo:=0) (n:=m.toNat) (fun i σ H3=>∃ (v3 v4 v5 v6:Option V) (as:List Addr) (ss:List Stp),σ=[some (.int cell),some (.int c),some (.ref sl),v3,v4,v5,v6]∧Stps (nw H (del H3 sl)) as ss∧ss.length=i∧(∀ s ∈ ss,(0≤s.d∧s.d < c)∧s.x ∈ q1s c∧0≤s.n)∧H3 sl=some (.lst (as.map V.ref))∧Kp [] H (del H3 sl)) ?_ ?_ ?_
  ·exact⟨none,none,none,none,[],[],rfl,⟨rfl,fun i a s e=>by simp at e⟩,rfl,fun s hs=>by simp at hs,k2.get hl1 nEm,kp1.trans (Kp.dl k2)⟩
  ·rintro i σ H3 hi ⟨v3,v4,v5,v6,as,ss,rfl,S,lS,ok,hl3,kp⟩
   have hi9:i < 12:=by omega
   have p6:=q5r (cell / (2 * (0 + (i:Int)) + 3) * 48271) 1033 6 (by decide) (by decide)
   refine⟨_,rfl,_,rfl,_,_,rfl,rfl,.inl ⟨by decide,by decide⟩,_,_,rfl,rfl,_,_,rfl,rfl,(by show (0:Int) < _∧_ < (1073741824:Int);omega),_,_,rfl,rfl,.inr ⟨by decide,by decide⟩,_,_,rfl,rfl,(by show (0:Int) < _;decide),_,_,rfl,rfl,(by show (0:Int) < _;decide),_,rfl,_,c,rfl,p6.1,p6.2,h1,h9,fun x H4 hx k4=> ?_⟩
   refine⟨_,rfl,_,rfl,_,_,rfl,rfl,_,_,rfl,rfl,(by show (0:Int) < _∧_ < (1073741824:Int);omega),_,rfl,_,_,rfl,rfl,_,_,rfl,rfl,.inr ⟨by decide,by decide⟩,_,_,rfl,rfl,(by show (0:Int) < _;decide),_,rfl,_,_,rfl,rfl,(by show (0:Int) < _;omega),?_⟩
   have pd:=q5r ((cell / (0 + (i:Int) + 2) + (0 + (i:Int))) * 48271) 1031 c (by decide) (by omega)
   refine qbs fun d hd=> ?_
   rw[← hd]at pd
   clear hd
   refine⟨_,rfl,_,rfl,_,_,rfl,rfl,_,_,rfl,rfl,(by show (0:Int) < _∧_ < (1073741824:Int);omega),_,_,rfl,rfl,.inr ⟨by decide,by decide⟩,_,_,rfl,rfl,(by show (0:Int) < _;decide),_,_,rfl,rfl,(by show (0:Int) < _;decide),?_⟩
   refine qbs fun m0 e0=> ?_
   have hm0:0≤m0:=by rw[e0];exact Int.emod_nonneg _ (by decide)
   clear e0
   refine⟨_,rfl,_,rfl,_,_,rfl,rfl,_,_,rfl,rfl,(by show (0:Int) < _∧_ < (1073741824:Int);omega),_,_,rfl,rfl,.inr ⟨by decide,by decide⟩,_,_,rfl,rfl,(by show (0:Int) < _;decide),_,_,rfl,rfl,(by show (0:Int) < _;decide),rfl,_,rfl,ite2 (fun h=> ?_) (fun h=> ?_)⟩
   ·refine⟨(by show 2≤sizeLine;decide),fun l' hl'=>⟨_,rfl,_,_,rfl,rfl,.inr ⟨by decide,by decide⟩,_,_,rfl,rfl,(by show (0:Int) < _;decide),_,_,rfl,rfl,(by show (0:Int) < _;decide),q53 V.int [25,70000000000000000000] hl' (Int.emod_nonneg _ (by decide)) (by show _ < (2:Int);exact Int.emod_lt_of_pos _ (by decide)) fun m1 H5 em1 k5=> ?_⟩⟩
    have hm0:0≤m1:=by have:=List.mem_of_getElem? em1;simp at this;omega
    refine⟨_,rfl,.inl ⟨rfl,_,SqL.of ((k4.trans k5).get hl3 nEm)⟩,_,rfl,_,rfl,_,rfl,(by show 3≤sizeLine;decide),fun t ht=> ?_⟩
    have k6:Kp [] H3 (upd H5 t (.tup (Stp.vs ⟨d,x,m1⟩))):=(k4.trans k5).trans (Kp.new ht)
    have ht3:H3 t=none:=Kp.free (k4.trans k5) ht
    have hl5:=k6.get hl3 nEm
    obtain⟨_,kp6,hd6⟩:=qd6 kp hl3 k6 ht3 q03
    refine⟨sl,_,_,rfl,rfl,hl5,(by rw[List.length_map,S.len];exact q0n (by omega)),?_⟩
    refine⟨_,_,_,_,as ++ [t],ss ++ [⟨d,x,m1⟩],rfl,?_,by simp[lS],?_,by rw[q03,List.map_append];rfl,by rw[q20];exact kp6⟩
    ·rw[q20]
     exact(S.kp (nw_r (Kp.dl k6))).app (.one (q69 hd6 (Kp.free kp (by unfold del;split;rfl;exact ht3))))
    ·intro s' hs'
     rw[List.mem_append]at hs'
     rcases hs' with z | z
     ·exact ok s' z
     ·simp at z
      subst z
      exact⟨pd,hx,hm0⟩
   ·obtain⟨m1,rfl⟩:∃ m1,m1=m0:=⟨_,rfl⟩
    have k5:=Kp.refl [] H4
    obtain⟨H5,e5⟩:∃ H5,H4=H5:=⟨_,rfl⟩
    rw[e5]at k4 k5 ⊢
    refine⟨_,rfl,.inl ⟨rfl,_,SqL.of ((k4.trans k5).get hl3 nEm)⟩,_,rfl,_,rfl,_,rfl,(by show 3≤sizeLine;decide),fun t ht=> ?_⟩
    have k6:Kp [] H3 (upd H5 t (.tup (Stp.vs ⟨d,x,m1⟩))):=(k4.trans k5).trans (Kp.new ht)
    have ht3:H3 t=none:=Kp.free (k4.trans k5) ht
    have hl5:=k6.get hl3 nEm
    obtain⟨_,kp6,hd6⟩:=qd6 kp hl3 k6 ht3 q03
    refine⟨sl,_,_,rfl,rfl,hl5,(by rw[List.length_map,S.len];exact q0n (by omega)),?_⟩
    refine⟨_,_,_,_,as ++ [t],ss ++ [⟨d,x,m1⟩],rfl,?_,by simp[lS],?_,by rw[q03,List.map_append];rfl,by rw[q20];exact kp6⟩
    ·rw[q20]
     exact(S.kp (nw_r (Kp.dl k6))).app (.one (q69 hd6 (Kp.free kp (by unfold del;split;rfl;exact ht3))))
    ·intro s' hs'
     rw[List.mem_append]at hs'
     rcases hs' with z | z
     ·exact ok s' z
     ·simp at z
      subst z
      exact⟨pd,hx,hm0⟩
  ·rintro σ H3 ⟨v3,v4,v5,v6,as,ss,rfl,S,lS,ok,hl3,kp⟩
   have kpH:=kp.trans q2s
   exact⟨_,rfl,q sl as ss H3 (q69 hl3 hsl) (S.kp (nw_r q2s)) ⟨by omega,fun s hs=>(ok s hs).1,fun s hs=>(ok s hs).2⟩ kpH⟩
end
end K07
end
section
namespace K07
open PySem L2
section
variable {P:Program} {w:World} {K:PySem.W.Frag} {mg:Str→Option Value} {base:Heap}
def qh9:Sp:=fun vs H Q _=>∃ (cell k c:Int),vs=[.int cell,.int k,.int c]∧0≤k∧1≤c∧c≤9∧∀ a d H',q1y (nw H H') a d→q5m c d→Kp [] H H'→Q (.ref a) H'
theorem qci:FnScope ["_law_cell","_law_k","_law_count","_law_way","_law_work","_law_luck","_law_which","_law_large","_law_odd","_law_desk","_law_many"] ["_law_cell","_law_k","_law_count"] (q06 q7v):=⟨rfl,rfl,rfl,by decide +kernel,rfl,by decide +kernel,by decide +kernel⟩
theorem qii {f:Addr} {fd:FuncData} (Fn:Fun K "_law_deed_of" "_law_deed_of" q7v f fd) (B:Blt mg) (Dlaw_work_called:Df P w K mg base CX0 1 "_law_work_called" ["_law_j","_law_count"] (spNm q4h)) (Dlaw_thing_called:Df P w K mg base CX0 1 "_law_thing_called" ["_law_j","_law_count"] spTh)
  (Dlaw_steps_of:Df P w K mg base CX0 2 "_law_steps_of" ["_law_cell","_law_count"] q8z):FnOk P w K mg base CX0 3 f fd ["_law_cell","_law_k","_law_count"] qh9:=by
 refine Fn.ok qci (fun vs H Q E h=> ?_) (fun cdv A outer s H vs Q E hr h=> ?_)
 ·obtain⟨cell,k,c,rfl,_⟩:=h
  rfl
 ·obtain⟨cell,k,c,rfl,h0,h1,h9,q⟩:=h
  have nd:=qci.nd
  have big:∀ {n:Nat},n≤900→n≤sizeLine:=fun h=>Nat.le_of_lt (q0n h)
  obtain⟨t4,h4,key⟩:∃ t4,PSs (cxOf CX0 P w K mg base ["_law_cell","_law_k","_law_count","_law_way","_law_work","_law_luck","_law_which","_law_large","_law_odd","_law_desk","_law_many"] "_law_deed_of" (q06 q7v) f cdv A outer s H E).nox ((q0g q7v).drop 4) t4 ∧
    ∀ (way:Int) (x luck:Str) (H1:Hp),x ∈ q5a c→(luck= "ok" ∨ luck= "lost" ∨ luck= "deaf")→Kp [] H H1 →
     t4 { nx:=fun _ H'=>Q .non H',rt:=Q } [some (.int cell),some (.int k),some (.int c),some (.int way),some (.str x),some (.str luck),none,none,none,none,none] H1:=by
   refine⟨_,(q01 (q0q (q0f q1i (pv 3) q02 (q0i _))
   (q07 (q0a (q19 (q00 q09 (q00 (pv 4) (q00 (q18 Dlaw_steps_of (hr.mono (by decide)) q0z (q00 (q0l q38 (pv 0) q02) (q00 (pv 2) q05))) q05))))))
   q0c)
   (q01 (q0q (q0f q1i (pv 3) q02 (q0i _))
   (q01 (q0s (i:=6) nd rfl (Or.inl rfl) (q0l q12 (q0l q12 (q0l q1q (pv 0) q02) q02) (q0l q24 (pv 1) q02)))
   (q01 (q0q (q0f q1i (q0l q12 (q0l q12 (q0l q1q (pv 0) q02) q02) q02) q02 (q0i _))
   (q07 (q0s (i:=6) nd rfl (Or.inl rfl) q02))
   q0c)
   (q07 (q0a (q19 (q00 q09 (q00 (pv 6) q05)))))))
   q0c)
   (q01 (q0q (q0f q1i (pv 3) q02 (q0i _))
   (q01 (q0s (i:=7) nd rfl (Or.inl rfl) q02)
   (q01 (q0s (i:=8) nd rfl (Or.inl rfl) (q0k q13 (q1t (q00 (qgb qa6 q02) (q00 (pv 2) (q00 (qgb qa6 q02) (q00 (q0l q4j q02 (pv 2)) (q00 (pv 7) (q00 (q0l q4j q02 (pv 7)) q05))))))) (q0l q12 (q0l q12 (q0l q1q (pv 0) q02) q02) q02) (fun _ _=>rfl)))
   (q01 (q0s (i:=9) nd rfl (Or.inl rfl) (q0k q13 (q1t (q00 (q0l q12 (pv 1) (pv 2)) (q00 (pv 8) q05))) (q0l q12 (q0l q12 (q0l q1q (pv 0) q02) q02) q02) (fun _ _=>rfl)))
   (q01 (q0s (i:=10) nd rfl (Or.inl rfl) (q0k q13 (q1t (q00 q02 (q00 q02 (q00 q02 (q00 q02 (q00 (pv 7) q05)))))) (q0l q12 (q0l q12 (q0l q1q (pv 0) q02) q02) q02) (fun _ _=>rfl)))
   (q07 (q0a (q19 (q00 q09 (q00 (pv 9) (q00 (q18 Dlaw_thing_called (hr.mono (by decide)) q0z (q00 (q0k q13 (q1t (q00 q02 (q00 q02 (q00 q02 q05)))) (q0l q12 (q0l q12 (q0l q1q (pv 0) q02) q02) q02) (fun _ _=>rfl)) (q00 (pv 2) q05))) (q00 (pv 10) q05)))))))))))
   q0c)
   (q01 (q0q (q0f q1i (pv 3) q02 (q0i _))
   (q07 (q0a (q19 (q00 q09 q05))))
   q0c)
   (q01 (q0q (q0f q5n (pv 3) q02 (q0i _))
   (q07 (q0a (q19 (q00 q09 q05))))
   q0c)
   (q07 (q0a (q19 (q00 q09 (q00 (pv 4) (q00 (pv 5) q05))))))))))),fun way x luck H1 hx hk k1=> ?_⟩
   have one:∀ {H2:Hp} {a:Addr} {xs:List V},Kp [] H1 H2→H2 a=none→nw H (upd H2 a (.tup xs)) a=some (.tup xs)∧Kp [] H (upd H2 a (.tup xs)):=fun {H2 a xs} k2 ha =>
    ⟨q69 q03 (Kp.free (k1.trans k2) ha),(k1.trans k2).trans (Kp.new ha)⟩
   refine⟨_,rfl,rfl,_,rfl,ite2 (fun _=> ?_) (fun _=> ?_)⟩
   ·refine⟨_,rfl,_,rfl,_,_,rfl,rfl,(by show (0:Int) < 16∧(16:Int) < 1073741824;decide),_,rfl,_,c,rfl,h1,h9,fun p as ss H2 hp S ok k2=>⟨(by show 3≤sizeLine;decide),fun a ha=> ?_⟩⟩
    have kk:Kp [] (nw H1 H2) (nw H (upd H2 a (.tup [.str "start",.str x,.ref p]))):=(nw_l k1).trans (nw_r (Kp.new ha))
    obtain⟨o1,o2⟩:=one (xs:=[.str "start",.str x,.ref p]) k2 ha
    exact q a (.start x ss) _ ⟨p,as,o1,kk.get hp nEm,S.kp kk,by have:=ok.1;omega⟩ ⟨hx,ok⟩ o2
   refine⟨_,rfl,rfl,_,rfl,ite2 (fun _=> ?_) (fun _=> ?_)⟩
   ·refine⟨_,rfl,_,_,rfl,rfl,.inr ⟨by decide,by decide⟩,_,_,rfl,rfl,(by show (0:Int) < _;decide),_,rfl,_,_,rfl,rfl,_,_,rfl,rfl,(by show (0:Int) < _;omega),?_⟩
    refine⟨_,rfl,_,_,rfl,rfl,.inr ⟨by decide,by decide⟩,_,_,rfl,rfl,(by show (0:Int) < _;decide),_,_,rfl,rfl,(by show (0:Int) < _;decide),rfl,_,rfl,ite2 (fun _=> ?_) (fun _=> ?_)⟩
    ·refine⟨_,rfl,(by show 2≤sizeLine;decide),fun a ha=> ?_⟩
     obtain⟨o1,o2⟩:=one (xs:=[.str "late",.int 100000000000000000000]) (Kp.refl _ _) ha
     exact q a (.late 100000000000000000000) _ o1 (show (0:Int)≤100000000000000000000 by decide) o2
    ·refine⟨_,rfl,(by show 2≤sizeLine;decide),fun a ha=> ?_⟩
     obtain⟨o1,o2⟩:=one (xs:=[.str "late",.int (cell * 48271 % 1069 % (k + 1))]) (Kp.refl _ _) ha
     exact q a (.late (cell * 48271 % 1069 % (k + 1))) _ o1 (Int.emod_nonneg _ (by omega)) o2
   refine⟨_,rfl,rfl,_,rfl,ite2 (fun _=> ?_) (fun _=> ?_)⟩
   ·refine⟨_,rfl,_,rfl,_,rfl,_,rfl,_,_,rfl,rfl,_,rfl,_,rfl,_,_,rfl,rfl,(by show 6≤sizeLine;decide),fun l hl=>⟨_,rfl,_,_,rfl,rfl,.inr ⟨by decide,by decide⟩,_,_,rfl,rfl,(by show (0:Int) < _;decide),_,_,rfl,rfl,(by show (0:Int) < _;decide),q53 V.int [-(1:Int),c,-(2:Int),0 - c,100000000000000000000,0 - 100000000000000000000] hl (Int.emod_nonneg _ (by decide)) (by show _ < (6:Int);exact Int.emod_lt_of_pos _ (by decide)) fun odd H2 _ k2=> ?_⟩⟩
    refine⟨_,rfl,_,rfl,_,_,rfl,rfl,(by show (0:Int) < _;omega),_,rfl,(by show 2≤sizeLine;decide),fun l' hl'=>⟨_,rfl,_,_,rfl,rfl,.inr ⟨by decide,by decide⟩,_,_,rfl,rfl,(by show (0:Int) < _;decide),_,_,rfl,rfl,(by show (0:Int) < _;decide),q53 V.int [k % c,odd] hl' (Int.emod_nonneg _ (by decide)) (by show _ < (2:Int);exact Int.emod_lt_of_pos _ (by decide)) fun d H3 _ k3=> ?_⟩⟩
    refine⟨_,rfl,(by show 5≤sizeLine;decide),fun l'' hl''=>⟨_,rfl,_,_,rfl,rfl,.inr ⟨by decide,by decide⟩,_,_,rfl,rfl,(by show (0:Int) < _;decide),_,_,rfl,rfl,(by show (0:Int) < _;decide),q53 V.int [0,1,2,3,100000000000000000000] hl'' (Int.emod_nonneg _ (by decide)) (by show _ < (5:Int);exact Int.emod_lt_of_pos _ (by decide)) fun m H4 em k4=> ?_⟩⟩
    have hm:0≤m:=by have:=List.mem_of_getElem? em;simp at this;omega
    refine⟨_,rfl,(by show 3≤sizeLine;decide),fun l3 hl3=>⟨_,rfl,_,_,rfl,rfl,.inr ⟨by decide,by decide⟩,_,_,rfl,rfl,(by show (0:Int) < _;decide),_,_,rfl,rfl,(by show (0:Int) < _;decide),q53 V.int [0,5,4] hl3 (Int.emod_nonneg _ (by decide)) (by show _ < (3:Int);exact Int.emod_lt_of_pos _ (by decide)) fun j H5 ej k5=> ?_⟩⟩
    have hj:0≤j∧j < 6:=by
     have:=List.mem_of_getElem? ej
     simp at this
     omega
    refine⟨_,rfl,j,c,rfl,hj.1,hj.2,h1,h9,fun y H6 hy k6=>⟨_,rfl,(by show 4≤sizeLine;decide),fun a ha=> ?_⟩⟩
    obtain⟨o1,o2⟩:=one (xs:=[.str "fill",.int d,.str y,.int m]) ((((k2.trans k3).trans k4).trans k5).trans k6) ha
    exact q a (.fill d y m) _ o1 ⟨hy,hm⟩ o2
   refine⟨_,rfl,rfl,_,rfl,ite2 (fun _=> ?_) (fun _=> ?_)⟩
   ·refine⟨(by show 1≤sizeLine;decide),fun a ha=> ?_⟩
    obtain⟨o1,o2⟩:=one (xs:=[.str "stop"]) (Kp.refl _ _) ha
    exact q a .stop _ o1 trivial o2
   refine⟨_,rfl,_,_,rfl,rfl,_,rfl,ite2 (fun _=> ?_) (fun _=> ?_)⟩
   ·refine⟨(by show 1≤sizeLine;decide),fun a ha=> ?_⟩
    obtain⟨o1,o2⟩:=one (xs:=[.str "wake"]) (Kp.refl _ _) ha
    exact q a .wake _ o1 trivial o2
   refine⟨_,rfl,_,rfl,(by show 3≤sizeLine;decide),fun a ha=> ?_⟩
   obtain⟨o1,o2⟩:=one (xs:=[.str "go",.str x,.str luck]) (Kp.refl _ _) ha
   exact q a (.go x luck) _ o1 hk o2
  refine⟨_,q01 (q0s (i:=3) nd rfl (Or.inl rfl) (q0l q12 (q0l q12 (q0l q1q (pv 0) q02) q02) q02)) (q01 (q0s (i:=4) nd rfl (Or.inl rfl) (q18 Dlaw_work_called (hr.mono (by decide)) q0z (q00 (q0k q13 (q1t (q00 q02 (q00 q02 (q00 q02 (q00 q02 (q00 q02 (q00 q02 (q00 q02 (q00 q02 q05))))))))) (q0l q12 (q0l q12 (q0l q1q (q0l q24 (pv 0) (pv 1)) q02) q02) q02) (fun _ _=>rfl)) (q00 (pv 2) q05)))) (q01 (q0s (i:=5) nd rfl (Or.inl rfl) (q0k q13 (q1t (q00 q09 (q00 q09 (q00 q09 (q00 q09 (q00 q09 (q00 q09 (q00 q09 (q00 q09 q05))))))))) (q0l q12 (q0l q12 (q0l q1q (pv 0) q02) q02) q02) (fun _ _=>rfl))) (q01 (q0q (q0f q1i (q0l q12 (q0l q12 (q0l q1q (pv 0) q02) q02) q02) q02 (q0i _))
   (q07 (q0s (i:=4) nd rfl (Or.inl rfl) q09))
   q0c) h4))),?_⟩
  refine⟨_,rfl,_,_,rfl,rfl,.inr ⟨by decide,by decide⟩,_,_,rfl,rfl,(by show (0:Int) < _;decide),_,_,rfl,rfl,(by show (0:Int) < _;decide),?_⟩
  refine qbs fun way _=> ?_
  refine⟨(by show 8≤sizeLine;decide),fun l hl=>⟨_,rfl,_,rfl,_,_,rfl,rfl,_,_,rfl,rfl,.inr ⟨by decide,by decide⟩,_,_,rfl,rfl,(by show (0:Int) < _;decide),_,_,rfl,rfl,(by show (0:Int) < _;decide),q53 V.int [0,1,2,0,1,3,4,5] hl (Int.emod_nonneg _ (by decide)) (by show _ < (8:Int);exact Int.emod_lt_of_pos _ (by decide)) fun j H2 ej k2=> ?_⟩⟩
  have hj:0≤j∧j < 6:=by
   have:=List.mem_of_getElem? ej
   simp at this
   omega
  refine⟨_,rfl,j,c,rfl,hj.1,hj.2,h1,h9,fun H3 k3=> ?_⟩
  refine⟨(by show 8≤sizeLine;decide),fun l' hl'=>⟨_,rfl,_,_,rfl,rfl,.inr ⟨by decide,by decide⟩,_,_,rfl,rfl,(by show (0:Int) < _;decide),_,_,rfl,rfl,(by show (0:Int) < _;decide),q53 V.str ["ok","ok","ok","lost","deaf","ok","lost","deaf"] hl' (Int.emod_nonneg _ (by decide)) (by show _ < (8:Int);exact Int.emod_lt_of_pos _ (by decide)) fun luck H4 el k4=> ?_⟩⟩
  have hk:luck= "ok" ∨ luck= "lost" ∨ luck= "deaf" := by
   have:=List.mem_of_getElem? el
   simp only[List.mem_cons,List.not_mem_nil,or_false]at this
   rcases this with z | z | z | z | z | z | z | z
   ·exact .inl z
   ·exact .inl z
   ·exact .inl z
   ·exact .inr (.inl z)
   ·exact .inr (.inr z)
   ·exact .inl z
   ·exact .inr (.inl z)
   ·exact .inr (.inr z)
  have kk:=(k2.trans k3).trans k4
  refine⟨_,rfl,_,_,rfl,rfl,.inr ⟨by decide,by decide⟩,_,_,rfl,rfl,(by show (0:Int) < _;decide),_,_,rfl,rfl,(by show (0:Int) < _;decide),rfl,_,rfl,ite2 (fun _=> ?_) (fun _=> ?_)⟩
  ·exact key way "nobody" luck H4 (by unfold q5a;simp) hk kk
  ·exact key way _ luck H4 (q5i c hj.1 hj.2) hk kk
end
end K07
end
section
namespace K07
open PySem L2
section
variable {P:Program} {w:World} {K:PySem.W.Frag} {mg:Str→Option Value} {base:Heap}
theorem q8u {H H2 H5:Hp} {dl a:Addr} {ad:List Addr} {ds:List Deed} {d:Deed} (kp:Kp [] H (del H2 dl)) (hl:H2 dl=some (.lst (ad.map V.ref))) (D:Deeds (del H2 dl) ad ds) (k:Kp [] H2 H5) (hd:q1y (del H5 dl) a d) :
  H5 dl=some (.lst (ad.map V.ref))∧(upd H5 dl (.lst (ad.map V.ref ++ [V.ref a]))) dl=some (.lst ((ad ++ [a]).map V.ref))∧Deeds (del (upd H5 dl (.lst (ad.map V.ref ++ [V.ref a]))) dl) (ad ++ [a]) (ds ++ [d])∧Kp [] H (del (upd H5 dl (.lst (ad.map V.ref ++ [V.ref a]))) dl):=by
 refine⟨k.get hl nEm,by rw[q03,List.map_append];rfl,?_,?_⟩
 ·rw[q20]
  exact(D.same (Kp.dl k)).app (.one hd)
 ·rw[q20]
  exact kp.trans (Kp.dl k)
theorem qg6 (ns:List Int) (lo hi:Option Int):∃ ms:List Int,cutV (ns.map V.int) lo hi=ms.map V.int∧ms.length≤ns.length:=by
 unfold cutV
 refine⟨(ns.drop (HT.sIx (ns.map V.int).length 0 lo)).take (HT.sIx (ns.map V.int).length (ns.map V.int).length hi - HT.sIx (ns.map V.int).length 0 lo),?_,?_⟩
 ·rw[List.map_take,List.map_drop]
 ·rw[List.length_take,List.length_drop]
  omega
def qby (K:PySem.W.Frag):Sp:=fun vs H Q _=>∃ (a:Addr) (ns:List Int) (c:Int),vs=[.ref a,.int c]∧Scr K H a ns∧ns.length≤63∧1≤c∧c≤9∧∀ p ad ds H',H p=none→H' p=some (.lst (ad.map V.ref))→Deeds H' ad ds→ds.length≤65→(∀ d ∈ ds,q5m c d)→Kp [] H H'→Q (.ref p) H'
def qgm:Sp:=fun vs H Q _=>∃ (l:Addr) (ad:List Addr) (ds:List Deed),vs=[.ref l]∧H l=some (.lst (ad.map V.ref))∧Deeds H ad ds∧ds.length≤800∧∀ p ad' H',H p=none→H' p=some (.lst (ad'.map V.ref))→Deeds H' ad' ds→Kp [] H H'→Q (.ref p) H'
theorem qdd:FnScope ["_law_deeds","_law_made","_law_deed"] ["_law_deeds"] (q06 qbq):=⟨rfl,rfl,rfl,by decide +kernel,rfl,by decide +kernel,by decide +kernel⟩
def qm5:Deed→Str
 | .start _ _=> "start" | .go _ _=> "go" | .late _=> "late" | .fill _ _ _=> "fill" | .stop=> "stop" | .wake=> "wake"
theorem q1y.head {H:Hp} {a:Addr} {d:Deed} (h:q1y H a d):∃ xs,H a=some (.tup (.str (qm5 d) :: xs)):=by
 cases d with
 | start x ss=>obtain⟨l,as,h1,_⟩:=h;exact⟨_,h1⟩
 | go x l=>exact⟨_,h⟩
 | late i=>exact⟨_,h⟩
 | fill d x n=>exact⟨_,h⟩
 | stop=>exact⟨_,h⟩
 | wake=>exact⟨_,h⟩
theorem qht {f:Addr} {fd:FuncData} (Fn:Fun K "_law_copy" "_law_copy" qbq f fd) (B:Blt mg):FnOk P w K mg base CX0 1 f fd ["_law_deeds"] qgm:=by
 refine Fn.ok qdd (fun vs H Q E h=> ?_) (fun cdv A outer s H vs Q E hr h=> ?_)
 ·obtain⟨l,ad,ds,rfl,_⟩:=h
  rfl
 ·obtain⟨l,ad,ds,rfl,hl,D,hz,q⟩:=h
  have nd:=qdd.nd
  refine⟨_,(q01 (q0s (i:=1) nd rfl (Or.inl rfl) (q1t q05))
   (q01 (q2e PassesOwn.never rfl (q1l (pv 0)) (q0x (i:=2) nd rfl (Or.inl rfl))
   (q07 (q0q (q0f q1i (q0k q0h (pv 2) q02 (fun _ _=>rfl)) q09 (q0i _))
   (q07 (q2a (q52 PySem.F.plainAttrs_list PySem.F.slot_list_append PySem.F.type_list_append q1o (pv 1) (q00 (q19 (q00 q09 (q00 (q0k q0h (pv 2) q02 (fun _ _=>rfl)) (q00 (q2b q50 rfl B.list_ PyProof.Rows.boot_list (q00 (q0k q0h (pv 2) q02 (fun _ _=>rfl)) q05)) q05)))) q05))))
   (q07 (q2a (q52 PySem.F.plainAttrs_list PySem.F.slot_list_append PySem.F.type_list_append q1o (pv 1) (q00 (pv 2) q05)))))))
   (q07 (q0a (pv 1))))),?_⟩
  refine⟨(by show 0≤sizeLine;decide),fun dl hdl=> ?_⟩
  refine⟨_,rfl,l,rfl,⟨_,SqL.of ((Kp.new (ex:=[]) hdl).get hl nEm)⟩,?_⟩
  refine q25 (xs:=ad.map V.ref) (fun i σ H2=>∃ (v2:Option V) (ad':List Addr),σ=[some (.ref l),some (.ref dl),v2]∧Deeds (del H2 dl) ad' (ds.take i)∧H2 dl=some (.lst (ad'.map V.ref))∧Kp [] H (del H2 dl)) ?_ ?_ ?_ ?_
  ·exact⟨none,[],rfl,Deeds.nil _,q03,by rw[q20];exact Kp.dof (Kp.refl _ _) hdl⟩
  ·rintro i σ H2 hi ⟨v2,ad',rfl,D2,hl2,kp⟩
   exact SqL.of ((kp.trans q2s).get hl nEm)
  ·rintro i x σ H2 hx ⟨v2,ad',rfl,D2,hl2,kp⟩
   rw[List.getElem?_map]at hx
   cases ea:ad[i]? with
   | none=>rw[ea]at hx;cases hx
   | some a =>
    rw[ea]at hx
    obtain rfl:V.ref a=x:=Option.some.inj hx
    have hi:i < ds.length:=by rw[← D.len];exact(List.getElem?_eq_some_iff.mp ea).1
    have ed:ds[i]? = some ds[i]:=List.getElem?_eq_getElem hi
    have hdA:=(D.at_ i a _ ea ed).kp (kp.trans q2s)
    have hdel:=(D.at_ i a _ ea ed).kp kp
    have et:=q27 ed
    have l2:ad'.length=i:=by rw[D2.len,List.length_take];omega
    have sz:(ad'.map V.ref).length < sizeLine:=by rw[List.length_map,l2];exact q0n (by omega)
    generalize ds[i]=d at hdA hdel et
    obtain⟨xs,hx0⟩:=hdA.head
    refine⟨_,rfl,a,_,_,_,rfl,rfl,SqT.of hx0,q08 (j:=0) rfl,rfl,_,rfl,?_⟩
    by_cases hs:∃ x ss,d= .start x ss
    ·obtain⟨x,ss,rfl⟩:=hs
     obtain⟨p,as,h1,h2,h3,h4⟩:=hdel
     have h1':=q2s.get h1 nEm
     have h2':=q2s.get h2 nEm
     refine iteD rfl ?_
     refine⟨_,rfl,.inl ⟨rfl,_,SqL.of hl2⟩,_,rfl,a,_,_,_,rfl,rfl,SqT.of h1',q08 (j:=1) rfl,_,rfl,a,_,_,_,rfl,rfl,SqT.of h1',q08 (j:=2) rfl,p,_,rfl,.inl (SqL.of h2'),fun lc hlc=>⟨(by show 3≤sizeLine;decide),fun t ht=> ?_⟩⟩
     have kc:Kp [] H2 (upd (upd H2 lc (.lst (as.map V.ref))) t (.tup [.str "start",.str x,.ref lc])):=(Kp.new hlc).trans (Kp.new ht)
     have hd:q1y (del (upd (upd H2 lc (.lst (as.map V.ref))) t (.tup [.str "start",.str x,.ref lc])) dl) t (.start x ss):=by
      have ht0:H2 t=none:=Kp.free (Kp.new hlc) ht
      have nl:lc ≠ t:=fun z=>by rw[← z,q03]at ht;cases ht
      refine⟨lc,as,q43 q03 (fun z=>by rw[z,hl2]at ht0;cases ht0),q43 (by rw[q0b nl];exact q03) (fun z=>by rw[z,hl2]at hlc;cases hlc),h3.kp (Kp.dl kc),h4⟩
     obtain⟨p1,p2,p3,p4⟩:=q8u kp hl2 D2 kc hd
     refine⟨dl,_,_,rfl,rfl,p1,sz,?_⟩
     exact⟨_,ad' ++ [t],rfl,by rw[et];exact p3,p2,p4⟩
    ·refine q14 ?_ ?_
     ·intro z
      cases d with
      | start x ss=>exact hs ⟨x,ss,rfl⟩
      | go _ _=>exact absurd (V.str.inj z) (show ¬ (("go" : Str)= "start") by decide +kernel)
      | late _=>exact absurd (V.str.inj z) (show ¬ (("late" : Str)= "start") by decide +kernel)
      | fill _ _ _=>exact absurd (V.str.inj z) (show ¬ (("fill" : Str)= "start") by decide +kernel)
      | stop=>exact absurd (V.str.inj z) (show ¬ (("stop" : Str)= "start") by decide +kernel)
      | wake=>exact absurd (V.str.inj z) (show ¬ (("wake" : Str)= "start") by decide +kernel)
     refine⟨_,rfl,.inl ⟨rfl,_,SqL.of hl2⟩,_,rfl,dl,_,_,rfl,rfl,hl2,sz,?_⟩
     refine⟨_,ad' ++ [a],rfl,?_,by rw[q03,List.map_append];rfl,by rw[q20];exact kp⟩
     rw[et,q20]
     exact D2.app (.one hdel)
  ·rintro σ H2 ⟨v2,ad',rfl,D2,hl2,kp⟩
   have e:ds.take (ad.map V.ref).length=ds:=by rw[List.length_map,D.len,List.take_length]
   rw[e]at D2
   exact⟨_,rfl,q dl ad' H2 hdl hl2 (D2.same q2s) (kp.trans q2s)⟩
def q75:Sp:=fun vs H Q _=>∃ (l:Addr) (as:List Addr) (Ts:List Tb),vs=[.ref l]∧H l=some (.lst (as.map V.ref))∧Stocks H as Ts∧Ts.length≤900∧∀ p cas H',H p=none→H' p=some (.lst (cas.map V.ref))→Stocks H' cas Ts→Kp [] H H'→(cas.Nodup∧∀ a ∈ cas,H a=none)→Q (.ref p) H'
theorem q8a:FnScope ["_law_stocks"] ["_law_stocks"] (q06 q4s):=⟨rfl,rfl,rfl,by decide +kernel,rfl,by decide +kernel,by decide +kernel⟩
theorem qco {f:Addr} {fd:FuncData} (Fn:Fun K "_law_copied" "_law_copied" q4s f fd) (B:Blt mg):FnOk P w K mg base CX0 1 f fd ["_law_stocks"] q75:=by
 refine Fn.ok q8a (fun vs H Q E h=> ?_) (fun cdv A outer s H vs Q E hr h=> ?_)
 ·obtain⟨l,as,Ts,rfl,_⟩:=h
  rfl
 ·obtain⟨l,as,Ts,rfl,hl,S,hz,q⟩:=h
  have nd:=q8a.nd
  have hte:∀ (σ:List (Option V)) (H:Hp) (Q:VK) (a:Addr) (kvs:List (Key×V)),σ[0]? = some (some (V.ref a))→H a=some (.dK kvs)→(∀ p,H p=none→Q (.ref p) (upd H p (.dK kvs)))→tCB (fun xs H Q=>∃ a kvs,xs=[V.ref a]∧Rd H a (.dK kvs)∧∀ p,H p=none→Q (.ref p) (upd H p (.dK kvs))) (q71 (tVar 0) tNil) σ H Q :=
   fun σ H Q a kvs h1 h2 h3=>⟨_,h1,a,kvs,rfl,.inl h2,h3⟩
  refine⟨_,(q07 (q0a (q37 (NB:=["_law_things"]) (ix:=[none]) rfl ⟨rfl,rfl,by decide +kernel,by decide +kernel,trivial,rfl,rfl,rfl,trivial⟩ (q1l (pv 0)) (fun _ _ _ _ _=>(q0x (i:=0) (show (["_law_things"]:List Str).Nodup by decide +kernel) rfl (Or.inl rfl))) (fun _ _ _ _ _=>q3b) (fun _ _ _ _ _=>(q2b q80 rfl B.dict PyProof.Rows.boot_dict (q00 (pv 0) q05)))))),?_⟩
  exact qcf (j:=0) rfl hl S hz hte q
end
section
variable {P:Program} {w:World} {K:PySem.W.Frag} {mg:Str→Option Value} {base:Heap}
theorem q9t:FnScope ["_law_script","_law_count","_law_deeds","_law_k","_law_steps","_law_cells"] ["_law_script","_law_count"] (q06 q68):=⟨rfl,rfl,rfl,by decide +kernel,rfl,by decide +kernel,by decide +kernel⟩
theorem qfu {f:Addr} {fd:FuncData} (Fn:Fun K "_law_drawn" "_law_drawn" q68 f fd) (B:Blt mg) (Dlaw_at:Df P w K mg base CX0 1 "_law_at" ["_law_script","_law_k"] (spAt K)) (Dlaw_work_called:Df P w K mg base CX0 1 "_law_work_called" ["_law_j","_law_count"] (spNm q4h))
  (Dlaw_steps_of:Df P w K mg base CX0 2 "_law_steps_of" ["_law_cell","_law_count"] q8z) (Dlaw_deed_of:Df P w K mg base CX0 3 "_law_deed_of" ["_law_cell","_law_k","_law_count"] qh9):FnOk P w K mg base CX0 4 f fd ["_law_script","_law_count"] (qby K):=by
 refine Fn.ok q9t (fun vs H Q E h=> ?_) (fun cdv A outer s H vs Q E hr h=> ?_)
 ·obtain⟨a,ns,c,rfl,_⟩:=h
  rfl
 ·obtain⟨a,ns,c,rfl,hS,hn,h1,h9,q⟩:=h
  have nd:=q9t.nd
  refine⟨_,(q01 (q0s (i:=2) nd rfl (Or.inl rfl) (q1t q05))
   (q01 (q2e PassesOwn.never rfl (q2h rfl B.range (q00 q02 q05)) (q0x (i:=3) nd rfl (Or.inl rfl))
   (q01 (q0s (i:=4) nd rfl (Or.inl rfl) (q18 Dlaw_steps_of (hr.mono (by decide)) q0z (q00 (q18 Dlaw_at (hr.mono (by decide)) q0z (q00 (pv 0) (q00 (q0l q24 (pv 3) q02) q05))) (q00 (pv 1) q05))))
   (q07 (q2a (q52 PySem.F.plainAttrs_list PySem.F.slot_list_append PySem.F.type_list_append q1o (pv 2) (q00 (q19 (q00 q09 (q00 (q18 Dlaw_work_called (hr.mono (by decide)) q0z (q00 (pv 3) (q00 (pv 1) q05))) (q00 (pv 4) q05)))) q05))))))
   (q01 (q0s (i:=5) nd rfl (Or.inl rfl) (qey qi6 (pv 0) (qdc q02) (qdc q02)))
   (q01 (q2e PassesOwn.never rfl (q2h rfl B.range (q00 (q0e q0m rfl B.len PySem.boot_len (q00 (pv 5) q05)) q05)) (q0x (i:=3) nd rfl (Or.inl rfl))
   (q07 (q2a (q52 PySem.F.plainAttrs_list PySem.F.slot_list_append PySem.F.type_list_append q1o (pv 2) (q00 (q18 Dlaw_deed_of (hr.mono (by decide)) q0z (q00 (q0l q24 (q0k q13 (pv 5) (pv 3) (fun _ _=>rfl)) (q0l q1q q02 (pv 3))) (q00 (pv 3) (q00 (pv 1) q05)))) q05)))))
   (q07 (q0a (pv 2))))))),?_⟩
  refine⟨(by show 0≤sizeLine;decide),fun dl hdl=> ?_⟩
  refine⟨_,rfl,(by decide),(by decide),?_⟩
  refine q26 (lo:=0) (n:=(2:Int).toNat) (fun i σ H2=>∃ (v3 v4:Option V) (ad:List Addr) (ds:List Deed),σ=[some (.ref a),some (.int c),some (.ref dl),v3,v4,none]∧Deeds (del H2 dl) ad ds∧ds.length=i∧(∀ d ∈ ds,q5m c d)∧H2 dl=some (.lst (ad.map V.ref))∧Kp [] H (del H2 dl)) ?_ ?_ ?_
  ·exact⟨none,none,[],[],rfl,Deeds.nil _,rfl,fun d hd=>by simp at hd,q03,by rw[q20];exact Kp.dof (Kp.refl _ _) hdl⟩
  ·rintro i σ H2 hi ⟨v3,v4,ad,ds,rfl,D2,lD,ok,hl2,kp⟩
   have hi2:i < 2:=hi
   have e2:(0 + (i:Int) + 2)=((i + 2:Nat):Int):=by omega
   refine⟨_,rfl,_,rfl,_,_,rfl,rfl,a,ns,i + 2,(by show [V.ref a,V.int (0 + (i:Int) + 2)]=_;rw[e2]),(hS.same (kp.trans q2s)).sq,_,rfl,_,c,rfl,h1,h9,fun p as ss H3 hp S okS k3=> ?_⟩
   refine⟨_,rfl,.inl ⟨rfl,_,SqL.of (k3.get hl2 nEm)⟩,_,rfl,_,rfl,_,c,rfl,(by omega),(by omega),h1,h9,fun H4 k4=>⟨_,rfl,(by show 3≤sizeLine;decide),fun t ht=> ?_⟩⟩
   have k5:Kp [] H2 (upd H4 t (.tup [.str "start",.str (q4h c (0 + (i:Int))),.ref p])):=(k3.trans k4).trans (Kp.new ht)
   have hd:q1y (del (upd H4 t (.tup [.str "start",.str (q4h c (0 + (i:Int))),.ref p])) dl) t (.start (q4h c (0 + (i:Int))) ss):=by
    have kk:Kp [] (nw H2 H3) (del (upd H4 t (.tup [.str "start",.str (q4h c (0 + (i:Int))),.ref p])) dl):=(qha hl2).trans (Kp.dl (k4.trans (Kp.new ht)))
    refine⟨p,as,q43 q03 (fun z=> ?_),kk.get hp nEm,S.kp kk,by have:=okS.1;omega⟩
    have:=(k3.trans k4).get hl2 nEm
    rw[z,this]at ht
    cases ht
   obtain⟨p1,p2,p3,p4⟩:=q8u kp hl2 D2 k5 hd
   refine⟨dl,_,_,rfl,rfl,p1,(by rw[List.length_map,D2.len];exact q0n (by omega)),?_⟩
   refine⟨_,_,ad ++ [t],ds ++ [.start (q4h c (0 + (i:Int))) ss],rfl,p3,by simp[lD],fun d' hd'=> ?_,p2,p4⟩
   rw[List.mem_append]at hd'
   rcases hd' with z | z
   ·exact ok d' z
   ·simp at z
    subst z
    exact⟨q5i c (by omega) (by omega),okS⟩
  ·rintro σ H2 ⟨v3,v4,ad,ds,rfl,D2,lD,ok,hl2,kp⟩
   have lD2:ds.length=2:=lD
   have S2:=hS.same (kp.trans q2s)
   refine⟨_,rfl,_,rfl,_,rfl,a,_,rfl,S2.sq,fun cl hcl=> ?_⟩
   obtain⟨ms,em,lm⟩:=qg6 ns (some 4) (some 44)
   rw[em]
   refine abs (fun H3=>Kp [] H2 H3∧H3 cl=some (.lst (ms.map V.int))) ⟨Kp.new hcl,q03⟩ ?_
   rintro H3 ⟨k3,hcl3⟩
   have el:(ms.map V.int).length=ms.length:=List.length_map ..
   have ncl:cl ≠ dl:=fun z=>by rw[z,hl2]at hcl;cases hcl
   refine⟨_,rfl,cl,_,rfl,.inl (SqL.of hcl3),(ms.length:Int),by rw[el],by omega,by omega,?_⟩
   refine q26 (lo:=0) (n:=((ms.length:Int)).toNat) (fun i σ H4=>∃ (v3 v4:Option V) (ad:List Addr) (ds:List Deed),σ=[some (.ref a),some (.int c),some (.ref dl),v3,v4,some (.ref cl)]∧Deeds (del H4 dl) ad ds∧ds.length=2 + i∧(∀ d ∈ ds,q5m c d)∧H4 dl=some (.lst (ad.map V.ref))∧Kp [] H (del H4 dl)∧del H4 dl cl=some (.lst (ms.map V.int))) ?_ ?_ ?_
   ·exact⟨_,_,ad,ds,rfl,D2.same (Kp.dl k3),by omega,ok,k3.get hl2 nEm,kp.trans (Kp.dl k3),q43 hcl3 ncl⟩
   ·rintro i σ H4 hi ⟨v3,v4,ad,ds,rfl,D4,lD,ok,hl4,kp,hcl4⟩
    have him:i < ms.length:=by omega
    have hat:atI (ms.map V.int) (0 + (i:Int))=some (.int ms[i]):=by
     have:=q08 (xs:=ms.map V.int) (j:=i) (v:= .int ms[i]) (by rw[List.getElem?_map,List.getElem?_eq_getElem him];rfl)
     rw[← this]
     congr 1
     omega
    refine⟨_,rfl,.inl ⟨rfl,_,SqL.of hl4⟩,_,rfl,_,rfl,cl,_,_,_,rfl,rfl,SqL.of (q2s.get hcl4 nEm),hat,_,rfl,_,_,rfl,rfl,.inl ⟨by decide,by decide⟩,_,_,rfl,rfl,_,rfl,_,rfl,_,_,c,rfl,(by omega),h1,h9,fun t d H5 hd okd k5=> ?_⟩
    obtain⟨p1,p2,p3,p4⟩:=q8u kp hl4 D4 k5 (hd.kp (qha hl4))
    refine⟨dl,_,_,rfl,rfl,p1,(by rw[List.length_map,D4.len];exact q0n (by omega)),?_⟩
    refine⟨_,_,ad ++ [t],ds ++ [d],rfl,p3,by simp[lD];omega,fun d' hd'=> ?_,p2,p4,by rw[q20];exact(Kp.dl k5).get hcl4 nEm⟩
    rw[List.mem_append]at hd'
    rcases hd' with z | z
    ·exact ok d' z
    ·simp at z
     subst z
     exact okd
   ·rintro σ H4 ⟨v3,v4,ad,ds,rfl,D4,lD,ok,hl4,kp,_⟩
    exact⟨_,rfl,q dl ad ds H4 hdl hl4 (D4.same q2s) (by omega) ok (kp.trans q2s)⟩
end
end K07
end
section
namespace K07
open PySem L2
section
variable {P:Program} {w:World} {K:PySem.W.Frag} {mg:Str→Option Value} {base:Heap}
theorem q58 (rows:List (Str×Int)):kvOf rows=inrs (rows.map fun q=>(q.1,V.int q.2)):=by unfold kvOf inrs;rw[List.map_map];rfl
def unI:Str×V→Str×Int
 | (x,.int i)=>(x,i)
 | (x,_)=>(x,0)
theorem qhv (rows:List (Str×Int)):(rows.map fun q=>(q.1,V.int q.2)).map unI=rows:=by
 rw[List.map_map]
 exact(List.map_congr_left fun q _=>rfl).trans (List.map_id _)
theorem qfg {rows:List (Str×Int)} {rv:List (Str×V)} (h:rv.Perm (rows.map fun q=>(q.1,V.int q.2))):(rv.map unI).Perm rows∧rv=(rv.map unI).map fun q=>(q.1,V.int q.2):=by
 refine⟨by have:=h.map unI;rwa [qhv]at this,?_⟩
 rw[List.map_map]
 refine((List.map_congr_left fun q hq=> ?_).trans (List.map_id _)).symm
 obtain⟨q',_,rfl⟩:=List.mem_map.mp (h.mem_iff.mp hq)
 rfl
theorem qdw {rows:List (Str×Int)} (h:q35 (rows.map fun q=>(q.1,V.int q.2))):q35 rows:=by
 unfold q35 at h ⊢
 rw[List.pairwise_map]at h
 exact h
def q5c (rows:List (Str×Int)):List (Str×Int):=rows.filter fun q=>decide (0 < q.2)
def q2j (H:Hp) (bs:List Addr) (rows:List (Str×Int)):Prop:=bs.length=rows.length∧∀ (j:Nat) b (row:Str×Int),bs[j]? = some b→rows[j]? = some row→H b=some (.tup [.str row.1,.int row.2])
theorem q2j.same {H H':Hp} {bs:List Addr} {rows:List (Str×Int)} (h:q2j H bs rows) (k:Kp [] H H'):q2j H' bs rows:=⟨h.1,fun j b row e1 e2=>k.get (h.2 j b row e1 e2) nEm⟩
theorem q2j.tk {H H':Hp} {bs:List Addr} {rows:List (Str×Int)} (h:q2j H bs rows) (k:TK H H'):q2j H' bs rows:=⟨h.1,fun j b row e1 e2=>k _ _ (h.2 j b row e1 e2)⟩
theorem q2j.snoc {H:Hp} {bs:List Addr} {rows:List (Str×Int)} {b:Addr} {row:Str×Int} (h:q2j H bs rows) (hb:H b=some (.tup [.str row.1,.int row.2])):q2j H (bs ++ [b]) (rows ++ [row]):=by
 refine⟨by simp[h.1],fun i c q e1 e2=> ?_⟩
 by_cases hi:i < bs.length
 ·rw[List.getElem?_append_left hi]at e1
  rw[List.getElem?_append_left (by rw[← h.1];exact hi)]at e2
  exact h.2 i c q e1 e2
 ·have e:i=bs.length:=by
   have:=(List.getElem?_eq_some_iff.mp e1).1
   simp at this
   omega
  subst e
  rw[List.getElem?_append_right (Nat.le_refl _)]at e1
  rw[h.1,List.getElem?_append_right (Nat.le_refl _)]at e2
  simp at e1 e2
  subst e1 e2
  exact hb
def q60 (Cd:Addr):Sp:=fun vs H Q _=>∃ (p s d:Addr) (rows:List (Str×Int)) (F:Fb),vs=[.ref p]∧DeskAt Cd H p s d (kvOf rows) F∧rows.length < 64∧∀ q bs rows' H',H q=none→H' q=some (.lst (bs.map V.ref))→rows'.Perm rows→q35 rows'→q2j H' bs (q5c rows')→Kp [] H H'→Q (.ref q) H'
theorem qe6:FnScope ["desk"] ["desk"] (q06 qbm):=⟨rfl,rfl,rfl,by decide +kernel,rfl,by decide +kernel,by decide +kernel⟩
theorem qaq (rows:List (Str×Int)) (q:Str×Int):q5c (rows ++ [q])=q5c rows ++ (if 0 < q.2 then [q] else []):=by
 unfold q5c
 rw[List.filter_append]
 by_cases h:0 < q.2
 ·rw[if_pos h,List.filter_cons,if_pos (decide_eq_true h)];rfl
 ·rw[if_neg h,List.filter_cons,if_neg (by simpa using h)];rfl
theorem qjg {f Cd:Addr} {fd:FuncData} (Fn:Fun K "things_at" "things_at" qbm f fd) (Td:Txt K mg Cd) (B:Blt mg):FnOk P w K mg base CX0 1 f fd ["desk"] (q60 Cd):=by
 refine Fn.ok qe6 (fun vs H Q E h=> ?_) (fun cdv A outer sh H vs Q E hr h=> ?_)
 ·obtain⟨p,s,d,rows,F,rfl,_⟩:=h
  rfl
 ·obtain⟨p,s,d,rows,F,rfl,D,h2,k⟩:=h
  have nd:=qe6.nd
  obtain⟨dx,hp⟩:=D.ob
  refine⟨_,(q07 (q0a (q37 (NB:=["thing","many"]) (ix:=[none,none]) rfl ⟨rfl,rfl,by decide +kernel,by decide +kernel,trivial,rfl,rfl,rfl,trivial⟩ (q1l (q0e (q7m rfl) rfl B.sorted PyProof.Rows.boot_sorted (q00 (qbx PySem.F.plainAttrs_dict PySem.F.slot_dict_items PySem.F.type_dict_items q6w (q1a (pv 0) rfl)) q05))) (fun _ _ _ _ _=>(qi8 (K:=K) (n:=2) rfl rfl (q1z (q0x (i:=0) (show (["thing","many"]:List Str).Nodup by decide +kernel) rfl (Or.inl rfl)) (q1z (q0x (i:=1) (show (["thing","many"]:List Str).Nodup by decide +kernel) rfl (Or.inl rfl)) q7h)))) (fun _ _ _ _ _=>(qcb (q0f qiu (pv 1) q02 (q0i _)))) (fun _ _ _ _ _=>(q19 (q00 (pv 0) (q00 (pv 1) q05))))))),?_⟩
  refine⟨_,rfl,p,Cd,dx,_,_,rfl,hp,Td.cl,Td.nS,q3s _ _,.inr (.inr (.inl ⟨rfl,.inl ⟨_,D.st⟩⟩)),s,_,rfl,rfl,D.st,trivial,fun v hv=> ?_⟩
  have kv:Kp [] H (upd H v (.ext fun h=>h.IsItemsView v s)):=Kp.new hv
  refine⟨v,s,rows.map fun q=>(q.1,V.int q.2),rfl,q03,(by rw[← q58];exact kv.get D.st nEm),by rw[List.length_map];exact h2,fun q as rv H1 hq hq1 _ pm lt It kp1=> ?_⟩
  obtain⟨pm',ev⟩:=qfg pm
  rw[ev]at lt It
  have lt':=qdw lt
  rw[← q58]at It
  have k:=fun D0 bs H2 hDH hy th kk=>k D0 bs (rv.map unI) H2 hDH hy pm' lt' th kk
  have l64:(rv.map unI).length < 64:=by rw[pm'.length_eq];exact h2
  generalize rv.map unI=rows at It k l64
  have kpA:=kv.trans kp1
  have lI:as.length=rows.length:=by rw[It.len];unfold kvOf;rw[List.length_map]
  refine⟨q,rfl,⟨_,SqL.of hq1⟩,fun D0 hD=> ?_⟩
  refine q2r (xs:=as.map V.ref) (fun i σ ys H2=>∃ (v0 v1:Option V) (bs:List Addr),σ=[v0,v1]∧ys=bs.map V.ref∧q2j H2 bs (q5c (rows.take i))∧Kp [] H1 H2∧H2 D0=some (.lst ys)) ?_ ?_ ?_ ?_
  ·exact⟨none,none,[],rfl,rfl,⟨rfl,fun j b row e=>by simp at e⟩,Kp.new hD,q03⟩
  ·rintro i σ ys H2 hi ⟨v0,v1,bs,rfl,ey,th,kp,hy⟩
   exact⟨SqL.of (kp.get hq1 nEm),hy⟩
  ·rintro i x σ ys H2 hx ⟨v0,v1,bs,rfl,ey,th,kp,hy⟩
   rw[List.getElem?_map]at hx
   cases ea:as[i]? with
   | none=>rw[ea]at hx;cases hx
   | some a =>
    rw[ea]at hx
    obtain rfl:V.ref a=x:=Option.some.inj hx
    have hi:i < rows.length:=by rw[← lI];exact(List.getElem?_eq_some_iff.mp ea).1
    have er:rows[i]? = some rows[i]:=List.getElem?_eq_getElem hi
    have ha:=kp.get (It.at_ i a _ ea (show (kvOf rows)[i]? = some ((Sum.inr rows[i].1:Key),V.int rows[i].2) by unfold kvOf;rw[List.getElem?_map,er];rfl)) (by simp)
    have eS:=qaq (rows.take i) rows[i]
    rw[← q27 er]at eS
    generalize rows[i]=row at ha eS er
    obtain⟨x,m⟩:=row
    refine⟨a,_,rfl,SqT.of ha,rfl,_,_,rfl,_,_,rfl,rfl,?_⟩
    refine⟨_,rfl,_,_,rfl,rfl,_,rfl,?_⟩
    by_cases hm:0 < m
    ·refine iteD hm ?_
     rw[if_pos hm]at eS
     refine⟨_,rfl,_,rfl,(by show 2≤sizeLine;decide),fun b hb=> ?_⟩
     have kb:Kp [] H2 (upd H2 b (.tup [.str x,.int m])):=Kp.new hb
     have hyb:=kb.get hy nEm
     have thb:=(th.same kb).snoc (row:=(x,m)) (b:=b) q03
     refine⟨hyb,?_,_,_,bs ++ [b],rfl,?_,?_,?_,q03⟩
     ·rw[ey,List.length_map,th.1]
      exact q0n (Nat.le_trans (List.length_filter_le _ _) (by rw[List.length_take];omega))
     ·rw[ey,List.map_append];rfl
     ·rw[eS]
      exact thb.tk (Kp.tk (xs:=[D0]) (Kp.put (by simp)) fun c hc ys' e=>by simp at hc;subst hc;rw[hyb]at e;cases e)
     ·intro c o e hn
      rw[q0b (q0d e hD)]
      exact(kp.trans kb) c o e hn
    ·refine q14 hm ?_
     rw[if_neg hm,List.append_nil]at eS
     exact⟨_,_,bs,rfl,ey,by rw[eS];exact th,kp,hy⟩
  ·rintro σ ys H2 ⟨v0,v1,bs,rfl,ey,th,kp,hy⟩
   have e:rows.take (as.map V.ref).length=rows:=by rw[List.length_map,lI,List.take_length]
   rw[e]at th
   subst ey
   have hDH:H D0=none:=kpA.free hD
   exact k D0 bs H2 hDH hy th (kpA.trans kp)
def qa4:Sp:=fun vs H Q _=>∃ (l ld:Addr) (b:Int) (as:List Addr) (Ts:List Tb) (ad:List Addr) (ds:List Deed) (n:Nat) (rowss:List (List (Str×Int))),vs=[.ref l,.int b,.ref ld]∧StoryIn H l ld as Ts ad ds n∧(runD (newR Ts b) ds).2.desks.map (·.1)=rowss.map kvOf∧(∀ rows ∈ rowss,rows.length < 64) ∧
 ∀ (p:Addr) (cs:List Addr) (H':Hp),H p=none→H' p=some (.lst (cs.map V.ref))→cs.length=rowss.length→(∀ (j:Nat) c rows,cs[j]? = some c→rowss[j]? = some rows→∃ bs rows',H' c=some (.lst (bs.map V.ref))∧rows'.Perm rows∧q35 rows'∧q2j H' bs (q5c rows'))→Kp [] H H'→Q (.ref p) H'
theorem q7z:FnScope ["stocks","bound","deeds"] ["stocks","bound","deeds"] (q06 q4p):=⟨rfl,rfl,rfl,by decide +kernel,rfl,by decide +kernel,by decide +kernel⟩
theorem qe7 {f C Cd:Addr} {fd:FuncData} (Fn:Fun K "things_after" "things_after" q4p f fd) (T:TxtR K mg C) (Drunner_after:Df P w K mg base CX0 11 "runner_after" ["stocks","bound","deeds"] (q5f C Cd)) (Dthings_at:Df P w K mg base CX0 1 "things_at" ["desk"] (q60 Cd)):FnOk P w K mg base CX0 12 f fd ["stocks","bound","deeds"] qa4:=by
 refine Fn.ok q7z (fun vs H Q E h=> ?_) (fun cdv A outer sh H vs Q E hr h=> ?_)
 ·obtain⟨l,ld,b,as,Ts,ad,ds,n,rowss,rfl,_⟩:=h
  rfl
 ·obtain⟨l,ld,b,as,Ts,ad,ds,n,rowss,rfl,SI,hR,h2,k⟩:=h
  have nd:=q7z.nd
  refine⟨_,(q07 (q0a (q37 (NB:=["desk"]) (ix:=[none]) rfl ⟨rfl,rfl,by decide +kernel,by decide +kernel,trivial,rfl,rfl,rfl,trivial⟩ (q1l (q1a (q18 Drunner_after (hr.mono (by decide)) q0z (q00 (pv 0) (q00 (pv 1) (q00 (pv 2) q05)))) rfl)) (fun _ _ _ _ _=>(q0x (i:=0) (show (["desk"]:List Str).Nodup by decide +kernel) rfl (Or.inl rfl))) (fun _ _ _ _ _=>q3b) (fun _ _ _ _ _=>(q18 Dthings_at (hr.mono (by decide)) q0z (q00 (pv 0) q05)))))),?_⟩
  refine⟨_,rfl,_,rfl,_,rfl,l,ld,b,as,Ts,ad,ds,n,rfl,SI,fun r H1 I1=> ?_⟩
  obtain⟨tg,dl,wd,td,tr,lo,ps,wa,ta,Pp⟩:=I1.ex
  obtain⟨dx,ho⟩:=Pp.ob rfl
  have hdl:=Pp.hdl rfl
  have lR:ps.length=rowss.length:=by
   rw[Pp.len]
   have:=congrArg List.length hR
   rw[List.length_map,List.length_map]at this
   exact this
  have z9:rowss.length≤900:=by
   rw[← lR,Pp.len,(q2o _ _).1]
   simp[newR]
   exact SI.ok.z
  refine⟨r,C,dx,_,_,rfl,ho,T.cl,T.nDesks,q55 ..,dl,rfl,⟨_,SqL.of hdl⟩,fun D0 hD=> ?_⟩
  refine q2r (xs:=ps.map V.ref) (fun i σ ys H2=>∃ (v0:Option V) (cs:List Addr),σ=[v0]∧ys=cs.map V.ref∧cs.length=i∧(∀ (j:Nat) c rows,cs[j]? = some c→rowss[j]? = some rows→∃ bs rows',H2 c=some (.lst (bs.map V.ref))∧(rows'.Perm rows∧q35 rows'∧q2j H2 bs (q5c rows'))∧c ≠ D0)∧Kp [] H1 H2∧H2 D0=some (.lst ys)) ?_ ?_ ?_ ?_
  ·exact⟨none,[],rfl,rfl,rfl,fun j c rows e=>by simp at e,Kp.new hD,q03⟩
  ·rintro i σ ys H2 hi ⟨v0,cs,rfl,ey,lc,th,kp,hy⟩
   exact⟨SqL.of (kp.get hdl nEm),hy⟩
  ·rintro i x σ ys H2 hx ⟨v0,cs,rfl,ey,lc,th,kp,hy⟩
   rw[List.getElem?_map]at hx
   cases ea:ps[i]? with
   | none=>rw[ea]at hx;cases hx
   | some p =>
    rw[ea]at hx
    obtain rfl:V.ref p=x:=Option.some.inj hx
    have hip:i < ps.length:=(List.getElem?_eq_some_iff.mp ea).1
    have hi:i < rowss.length:=by omega
    have hd:i < (runD (newR Ts b) ds).2.desks.length:=by rw[← Pp.len];exact hip
    have er:rowss[i]? = some rowss[i]:=List.getElem?_eq_getElem hi
    have ed:=List.getElem?_eq_getElem hd
    have eT:((runD (newR Ts b) ds).2.desks[i]).1=kvOf rowss[i]:=by
     have:=congrArg (fun (z:List Tb)=>z[i]?) hR
     simp only[List.getElem?_map,ed,er,Option.map_some]at this
     exact Option.some.inj this
    obtain⟨_,s,d,D,_,_⟩:=Pp.dk i p ((runD (newR Ts b) ds).2.desks[i]).1 ((runD (newR Ts b) ds).2.desks[i]).2 ea ed rfl rfl rfl
    rw[eT]at D
    refine⟨_,rfl,p,s,d,rowss[i],_,rfl,D.same kp,h2 _ (List.getElem_mem hi),fun q bs rows' H3 hq hq3 pm lt th3 kp3=> ?_⟩
    have hy3:=kp3.get hy nEm
    have nq:q ≠ D0:=fun z=>by rw[z,hy]at hq;cases hq
    have kput:Kp [D0] H3 (upd H3 D0 (.lst (ys ++ [V.ref q]))):=Kp.put (by simp)
    have tkp:TK H3 (upd H3 D0 (.lst (ys ++ [V.ref q]))):=Kp.tk kput fun c hc ys' e=>by simp at hc;subst hc;rw[hy3]at e;cases e
    refine⟨hy3,?_,_,cs ++ [q],rfl,?_,by simp[lc],fun j c rows e1 e2=> ?_,?_,q03⟩
    ·rw[ey,List.length_map,lc];exact q0n (by omega)
    ·rw[ey,List.map_append];rfl
    ·by_cases hj:j < cs.length
     ·rw[List.getElem?_append_left hj]at e1
      obtain⟨bs',rows2,h1',⟨pm2,lt2,h2'⟩,h3'⟩:=th j c rows e1 e2
      exact⟨bs',rows2,by rw[q0b h3'];exact kp3.get h1' nEm,⟨pm2,lt2,(h2'.same kp3).tk tkp⟩,h3'⟩
     ·have ej:j=cs.length:=by
       have:=(List.getElem?_eq_some_iff.mp e1).1
       simp at this
       omega
      subst ej
      rw[List.getElem?_append_right (Nat.le_refl _)]at e1
      simp at e1
      subst e1
      rw[lc,er]at e2
      obtain rfl:rowss[i]=rows:=Option.some.inj e2
      exact⟨bs,rows',by rw[q0b nq];exact hq3,⟨pm,lt,th3.tk tkp⟩,nq⟩
    ·intro c o e hn
     rw[q0b (q0d e hD)]
     exact(kp.trans kp3) c o e hn
  ·rintro σ ys H2 ⟨v0,cs,rfl,ey,lc,th,kp,hy⟩
   subst ey
   have hDH:H D0=none:=by
    cases e:H D0 with
    | none=>rfl
    | some o=>have:=I1.kp.get e nEm;rw[hD]at this;cases this
   refine k D0 cs H2 hDH hy (by rw[lc,List.length_map,lR]) (fun j c rows e1 e2=> ?_) (I1.kp.trans kp)
   obtain⟨bs,rows',h1',⟨h2',h3',h4'⟩,_⟩:=th j c rows e1 e2
   exact⟨bs,rows',h1',h2',h3',h4'⟩
def q4y (H:Hp) (bs:List Addr) (rows:List (Str×List En)):Prop:=bs.length=rows.length∧∀ (j:Nat) b row,bs[j]? = some b→rows[j]? = some row→∃ l as,H b=some (.tup [.str row.1,.ref l])∧TrAt H l as row.2
def q6h (R:Rn):List (Str×List En):=R.works.map fun w=>(w.1,R.trail w.1)
def qag:Sp:=fun vs H Q _=>∃ (l ld:Addr) (b:Int) (as:List Addr) (Ts:List Tb) (ad:List Addr) (ds:List Deed) (n:Nat),vs=[.ref l,.int b,.ref ld]∧StoryIn H l ld as Ts ad ds n ∧
 ∀ p bs H',H p=none→H' p=some (.lst (bs.map V.ref))→q4y H' bs (q6h (runD (newR Ts b) ds).2)→Kp [] H H'→Q (.ref p) H'
theorem q8i:FnScope ["stocks","bound","deeds"] ["stocks","bound","deeds"] (q06 q4v):=⟨rfl,rfl,rfl,by decide +kernel,rfl,by decide +kernel,by decide +kernel⟩
theorem qd9 {f C Cd:Addr} {fd:FuncData} (Fn:Fun K "trails_after" "trails_after" q4v f fd) (T:TxtR K mg C) (B:Blt mg) (Drunner_after:Df P w K mg base CX0 11 "runner_after" ["stocks","bound","deeds"] (q5f C Cd)):FnOk P w K mg base CX0 12 f fd ["stocks","bound","deeds"] qag:=by
 refine Fn.ok q8i (fun vs H Q E h=> ?_) (fun cdv A outer s H vs Q E hr h=> ?_)
 ·obtain⟨l,ld,b,as,Ts,ad,ds,n,rfl,_⟩:=h
  rfl
 ·obtain⟨l,ld,b,as,Ts,ad,ds,n,rfl,SI,k⟩:=h
  have nd:=q8i.nd
  refine⟨_,(q07 (q0a (q2b (qar rfl) rfl B.list_ PyProof.Rows.boot_list (q00 (qbx PySem.F.plainAttrs_dict PySem.F.slot_dict_items PySem.F.type_dict_items q6w (q1a (q18 Drunner_after (hr.mono (by decide)) q0z (q00 (pv 0) (q00 (pv 1) (q00 (pv 2) q05)))) rfl)) q05)))),?_⟩
  refine⟨_,rfl,_,rfl,_,rfl,l,ld,b,as,Ts,ad,ds,n,rfl,SI,fun r H1 I1=> ?_⟩
  obtain⟨tg,dl,wd,td,tr,lo,ps,wa,ta,Pp⟩:=I1.ex
  obtain⟨dx,ho⟩:=Pp.ob rfl
  have htd:=Pp.htd rfl
  refine⟨r,C,dx,_,_,rfl,ho,T.cl,T.nTrails,q4b ..,.inr (.inr (.inl ⟨rfl,.inl ⟨_,htd⟩⟩)),td,_,rfl,rfl,htd,trivial,fun v hv=> ?_⟩
  have kv:Kp [] H1 (upd H1 v (.ext fun h=>h.IsItemsView v td)):=Kp.new hv
  refine⟨v,td,_,rfl,q03,kv.get htd nEm,fun p bs H' hp hp' It kp=> ?_⟩
  have kp1:=kv.trans kp
  have hpH:H p=none:=by
   cases e:H p with
   | none=>rfl
   | some o=>have:=(I1.kp.trans kv).get e nEm;rw[hp]at this;cases this
  refine k p bs H' hpH hp' ⟨?_,fun j c row e1 e2=> ?_⟩ (I1.kp.trans kp1)
  ·rw[It.len];unfold wkT q6h;rw[List.length_map,List.length_map]
  ·unfold q6h at e2
   rw[List.getElem?_map]at e2
   cases e3:(runD (newR Ts b) ds).2.works[j]? with
   | none=>rw[e3]at e2;cases e2
   | some w' =>
    rw[e3]at e2
    obtain rfl:=Option.some.inj e2
    obtain⟨_,as',h1,L⟩:=Pp.tl w'.1 w'.2 (List.mem_of_getElem? e3) rfl
    have:=It.at_ j c (Sum.inr w'.1,.ref (ta w'.1)) e1 (by unfold wkT;rw[List.getElem?_map,e3];rfl)
    exact⟨ta w'.1,as',this,kp1.get h1 nEm,L.same kp1⟩
def q7c:Sp:=fun vs H Q _=>∃ n:Int,vs=[.int n]∧Q (.bl true) H
theorem qg4:FnScope ["_law_found"] ["_law_found"] (q06 q6l):=⟨rfl,rfl,rfl,by decide +kernel,rfl,by decide +kernel,by decide +kernel⟩
theorem qg2 {f:Addr} {fd:FuncData} (Fn:Fun K "_law_whole" "_law_whole" q6l f fd) (B:Blt mg):FnOk P w K mg base CX0 1 f fd ["_law_found"] q7c:=by
 refine Fn.ok qg4 (fun vs H Q E h=> ?_) (fun cdv A outer s H vs Q E hr h=> ?_)
 ·obtain⟨n,rfl,_⟩:=h
  rfl
 ·obtain⟨n,rfl,k⟩:=h
  refine⟨_,(q07 (q0a (q4a (q0e q0t rfl B.isinstance PyProof.Rows.boot_isinstance (q00 (pv 0) (q00 (q10 rfl B.int_ PyProof.Rows.boot_int (v:= .ty "int") rfl) q05))) (q4z (qgx (q0e q0t rfl B.isinstance PyProof.Rows.boot_isinstance (q00 (pv 0) (q00 (q10 rfl B.bool PyProof.Rows.boot_bool (v:= .ty "bool") rfl) q05)))))))),?_⟩
  refine⟨_,rfl,_,_,_,true,rfl,.int _,q0y (by decide +kernel),_,rfl,iteT ?_⟩
  exact⟨_,rfl,_,_,_,false,rfl,.int _,q0y (by decide +kernel),_,rfl,k⟩
def qga (b:Option Int) (e:En):Option Int:=if e.1= "no" then some (e.2 - 1) else if e.1= "unsure" then some e.2 else if e.1= "undid" then some (e.2 - 1) else b
def back (t:List En):Option Int:=t.foldl qga none
def qfx (m:Int) (t:List En):Nx:=match back t with
 | none=>if (t.length:Int)=m then .dn else .dO t.length
 | some b=>if b < 0 then .ud else .un b
theorem q88 (t:List En) (e:En):back (t ++ [e])=qga (back t) e:=by unfold back;rw[List.foldl_append];rfl
def bV:Option Int→V
 | none=> .non
 | some b=> .int b
def qjy:Sp:=fun vs H Q _=>∃ (m:Int) (l:Addr) (as:List Addr) (t:List En),vs=[.int m,.ref l]∧TrAt H l as t∧∀ p H',H p=none→H' p=some (.tup (qfx m t).vs)→Kp [] H H'→Q (.ref p) H'
theorem qgk:FnScope ["_law_many","_law_trail","_law_back","_law_entry"] ["_law_many","_law_trail"] (q06 qb2):=⟨rfl,rfl,rfl,by decide +kernel,rfl,by decide +kernel,by decide +kernel⟩
theorem qjv {f:Addr} {fd:FuncData} (Fn:Fun K "_law_next" "_law_next" qb2 f fd) (B:Blt mg):FnOk P w K mg base CX0 1 f fd ["_law_many","_law_trail"] qjy:=by
 refine Fn.ok qgk (fun vs H Q E h=> ?_) (fun cdv A outer s H vs Q E hr h=> ?_)
 ·obtain⟨m,l,as,t,rfl,_⟩:=h
  rfl
 ·obtain⟨m,l,as,t,rfl,T,k⟩:=h
  have nd:=qgk.nd
  refine⟨_,(q01 (q0s (i:=2) nd rfl (Or.inl rfl) q4k)
   (q01 (q2e PassesOwn.never rfl (q1l (pv 1)) (q0x (i:=3) nd rfl (Or.inl rfl))
   (q07 (q0q (q0f q1i (q0k q0h (pv 3) q02 (fun _ _=>rfl)) q09 (q0i _))
   (q07 (q0s (i:=2) nd rfl (Or.inl rfl) (q0l q4j (q0k q0h (pv 3) q02 (fun _ _=>rfl)) q02)))
   (q07 (q0q (q0f q1i (q0k q0h (pv 3) q02 (fun _ _=>rfl)) q09 (q0i _))
   (q07 (q0s (i:=2) nd rfl (Or.inl rfl) (q0k q0h (pv 3) q02 (fun _ _=>rfl))))
   (q07 (q0q (q0f q1i (q0k q0h (pv 3) q02 (fun _ _=>rfl)) q09 (q0i _))
   (q07 (q0s (i:=2) nd rfl (Or.inl rfl) (q0l q4j (q0k q0h (pv 3) q02 (fun _ _=>rfl)) q02)))
   q0c)))))))
   (q01 (q0q (q3w (q5q (pv 2)))
   (q01 (q0q (q0f q1i (q0e q0m rfl B.len PySem.boot_len (q00 (pv 1) q05)) (pv 0) (q0i _))
   (q07 (q0a (q19 (q00 q09 (q00 q09 q05)))))
   q0c)
   (q07 (q0a (q19 (q00 q09 (q00 (q0e q0m rfl B.len PySem.boot_len (q00 (pv 1) q05)) q05))))))
   q0c)
   (q01 (q0q (q0f q5n (pv 2) q02 (q0i _))
   (q07 (q0a (q19 (q00 q09 (q00 q09 q05)))))
   q0c)
   (q07 (q0a (q19 (q00 q09 (q00 (pv 2) q05))))))))),?_⟩
  refine⟨_,rfl,l,rfl,⟨_,SqL.of T.ls⟩,?_⟩
  refine q25 (K:=K) (a:=l) (xs:=as.map V.ref) (fun i σ H2=>∃ v,σ=[some (.int m),some (.ref l),some (bV (back (t.take i))),v]∧H2=H) ⟨none,rfl,rfl⟩ (fun i σ H2 _ ⟨_,_,e⟩=>by rw[e];exact SqL.of T.ls) ?_ ?_
  ·rintro i x σ H2 hx ⟨v,rfl,rfl⟩
   rw[List.getElem?_map]at hx
   cases ea:as[i]? with
   | none=>rw[ea]at hx;cases hx
   | some a =>
    rw[ea]at hx
    obtain rfl:V.ref a=x:=Option.some.inj hx
    obtain⟨⟨y,n⟩,et,ha⟩:=T.en.get ea
    have eB:=q88 (t.take i) (y,n)
    rw[← q27 et]at eB
    unfold qga at eB
    dsimp only at eB
    refine⟨_,rfl,a,_,_,_,rfl,rfl,SqT.of ha,q08 (j:=0) rfl,rfl,_,rfl,?_⟩
    refine ite2 (fun h=> ?_) (fun h=> ?_)
    ·rw[if_pos (V.str.inj (of_decide_eq_true h))]at eB
     refine⟨_,rfl,a,_,_,_,rfl,rfl,SqT.of ha,q08 (j:=1) rfl,_,_,rfl,rfl,?_⟩
     exact⟨_,by rw[eB];rfl,rfl⟩
    rw[if_neg (fun z=>h (decide_eq_true (congrArg V.str z)))]at eB
    refine⟨_,rfl,a,_,_,_,rfl,rfl,SqT.of ha,q08 (j:=0) rfl,rfl,_,rfl,?_⟩
    refine ite2 (fun h=> ?_) (fun h=> ?_)
    ·rw[if_pos (V.str.inj (of_decide_eq_true h))]at eB
     refine⟨_,rfl,a,_,_,_,rfl,rfl,SqT.of ha,q08 (j:=1) rfl,?_⟩
     exact⟨_,by rw[eB];rfl,rfl⟩
    rw[if_neg (fun z=>h (decide_eq_true (congrArg V.str z)))]at eB
    refine⟨_,rfl,a,_,_,_,rfl,rfl,SqT.of ha,q08 (j:=0) rfl,rfl,_,rfl,?_⟩
    refine ite2 (fun h=> ?_) (fun h=> ?_)
    ·rw[if_pos (V.str.inj (of_decide_eq_true h))]at eB
     refine⟨_,rfl,a,_,_,_,rfl,rfl,SqT.of ha,q08 (j:=1) rfl,_,_,rfl,rfl,?_⟩
     exact⟨_,by rw[eB];rfl,rfl⟩
    rw[if_neg (fun z=>h (decide_eq_true (congrArg V.str z)))]at eB
    exact⟨_,by rw[eB];rfl,rfl⟩
  ·rintro σ H2 ⟨v,rfl,rfl⟩
   have e:t.take (as.map V.ref).length=t:=by rw[List.length_map,T.en.len,List.take_length]
   rw[e]
   unfold qfx at k
   cases hb:back t with
   | none =>
    rw[hb]at k
    refine⟨_,rfl,_,rfl,iteD rfl ?_⟩
    refine⟨_,rfl,l,_,rfl,.inl (SqL.of T.ls),_,rfl,rfl,_,rfl,?_⟩
    rw[List.length_map,T.en.len]
    refine ite2 (fun h=> ?_) (fun h=> ?_)
    ·have h':=V.int.inj (of_decide_eq_true h)
     dsimp only at k
     rw[if_pos h']at k
     exact⟨(by show 2≤sizeLine;decide),fun p hp=>k p _ hp q03 (Kp.new hp)⟩
    ·dsimp only at k
     rw[if_neg (fun z=>h (decide_eq_true (congrArg V.int z)))]at k
     refine⟨_,rfl,l,_,rfl,.inl (SqL.of T.ls),(by show 2≤sizeLine;decide),fun p hp=>k p _ hp ?_ (Kp.new hp)⟩
     rw[q03,List.length_map,T.en.len];rfl
   | some b =>
    rw[hb]at k
    refine⟨_,rfl,_,rfl,q14 (by intro z;cases z) ?_⟩
    refine⟨_,rfl,_,_,rfl,rfl,_,rfl,?_⟩
    refine ite2 (fun h=> ?_) (fun h=> ?_)
    ·dsimp only at k
     rw[if_pos (of_decide_eq_true h)]at k
     exact⟨(by show 2≤sizeLine;decide),fun p hp=>k p _ hp q03 (Kp.new hp)⟩
    ·dsimp only at k
     rw[if_neg (fun z=>h (decide_eq_true z))]at k
     exact⟨_,rfl,(by show 2≤sizeLine;decide),fun p hp=>k p _ hp q03 (Kp.new hp)⟩
def qdo:Sp:=fun vs H Q _=>∃ (a:Addr) (e:En),vs=[.ref a]∧H a=some (.tup (enV e))∧Q (.bl true) H
theorem qib:FnScope ["_law_found"] ["_law_found"] (q06 qaw):=⟨rfl,rfl,rfl,by decide +kernel,rfl,by decide +kernel,by decide +kernel⟩
theorem qic {f:Addr} {fd:FuncData} (Fn:Fun K "_law_is_entry" "_law_is_entry" qaw f fd) (B:Blt mg) (Dlaw_whole:Df P w K mg base CX0 1 "_law_whole" ["_law_found"] q7c):FnOk P w K mg base CX0 2 f fd ["_law_found"] qdo:=by
 refine Fn.ok qib (fun vs H Q E h=> ?_) (fun cdv A outer s H vs Q E hr h=> ?_)
 ·obtain⟨a,e,rfl,_⟩:=h
  rfl
 ·obtain⟨a,e,rfl,ha,k⟩:=h
  refine⟨_,(q01 (q0q (PW.pt (q2u (q1g (q17 (q0e q0t rfl B.isinstance PyProof.Rows.boot_isinstance (q00 (pv 0) (q00 (q10 rfl B.tuple PyProof.Rows.boot_tuple (v:= .ty "tuple") rfl) q05))))) (q23 (q0f q4c (q0e q0m rfl B.len PySem.boot_len (q00 (pv 0) q05)) q02 (q0i _)))))
   (q07 (q0a q1k))
   q0c)
   (q07 (q0a (q4a (q0e q0t rfl B.isinstance PyProof.Rows.boot_isinstance (q00 (q0k q0h (pv 0) q02 (fun _ _=>rfl)) (q00 (q10 rfl B.str PyProof.Rows.boot_str (v:= .ty "str") rfl) q05))) (q4z (q18 Dlaw_whole (hr.mono (by decide)) q0z (q00 (q0k q0h (pv 0) q02 (fun _ _=>rfl)) q05))))))),?_⟩
  refine⟨_,rfl,_,_,_,true,rfl,.tup ha,q0y (by decide +kernel),_,rfl,iteF ?_⟩
  refine⟨_,rfl,a,_,rfl,.inr (SqT.of ha),rfl,_,rfl,q3u rfl ?_⟩
  refine⟨_,rfl,a,_,_,_,rfl,rfl,SqT.of ha,q08 (j:=0) rfl,_,_,_,true,rfl,.str _,q0y (by decide +kernel),_,rfl,iteT ?_⟩
  exact⟨_,rfl,a,_,_,_,rfl,rfl,SqT.of ha,q08 (j:=1) rfl,_,rfl,k⟩
def qbz:Sp:=fun vs H Q _=>∃ (p:Addr) (bs:List Addr) (rows:List (Str×List En)),vs=[.ref p]∧H p=some (.lst (bs.map V.ref))∧q4y H bs rows∧Q (.bl true) H
theorem qa5:FnScope ["_law_found","_law_row","_law_entry"] ["_law_found"] (q06 q64):=⟨rfl,rfl,rfl,by decide +kernel,rfl,by decide +kernel,by decide +kernel⟩
theorem qfh {f:Addr} {fd:FuncData} (Fn:Fun K "_law_are_trails" "_law_are_trails" q64 f fd) (B:Blt mg) (Dlaw_is_entry:Df P w K mg base CX0 2 "_law_is_entry" ["_law_found"] qdo):FnOk P w K mg base CX0 3 f fd ["_law_found"] qbz:=by
 refine Fn.ok qa5 (fun vs H Q E h=> ?_) (fun cdv A outer s H vs Q E hr h=> ?_)
 ·obtain⟨p,bs,rows,rfl,_⟩:=h
  rfl
 ·obtain⟨p,bs,rows,rfl,hp,TR,k⟩:=h
  have nd:=qa5.nd
  refine⟨_,(q01 (q0q (q1g (q17 (q0e q0t rfl B.isinstance PyProof.Rows.boot_isinstance (q00 (pv 0) (q00 (q10 rfl B.list_ PyProof.Rows.boot_list (v:= .ty "list") rfl) q05)))))
   (q07 (q0a q1k))
   q0c)
   (q01 (q2e PassesOwn.never rfl (q1l (pv 0)) (q0x (i:=1) nd rfl (Or.inl rfl))
   (q01 (q0q (PW.pt (q2u (q1g (q17 (q0e q0t rfl B.isinstance PyProof.Rows.boot_isinstance (q00 (pv 1) (q00 (q10 rfl B.tuple PyProof.Rows.boot_tuple (v:= .ty "tuple") rfl) q05))))) (q2u (q0f q4c (q0e q0m rfl B.len PySem.boot_len (q00 (pv 1) q05)) q02 (q0i _)) (q23 (q1g (q17 (q0e q0t rfl B.isinstance PyProof.Rows.boot_isinstance (q00 (q0k q0h (pv 1) q02 (fun _ _=>rfl)) (q00 (q10 rfl B.str PyProof.Rows.boot_str (v:= .ty "str") rfl) q05)))))))))
   (q07 (q0a q1k))
   q0c)
   (q01 (q0q (q1g (q17 (q0e q0t rfl B.isinstance PyProof.Rows.boot_isinstance (q00 (q0k q0h (pv 1) q02 (fun _ _=>rfl)) (q00 (q10 rfl B.list_ PyProof.Rows.boot_list (v:= .ty "list") rfl) q05)))))
   (q07 (q0a q1k))
   q0c)
   (q07 (q2e PassesOwn.never rfl (q1l (q0k q0h (pv 1) q02 (fun _ _=>rfl))) (q0x (i:=2) nd rfl (Or.inl rfl))
   (q07 (q0q (q1g (q17 (q18 Dlaw_is_entry (hr.mono (by decide)) q0z (q00 (pv 2) q05))))
   (q07 (q0a q1k))
   q0c)))))))
   (q07 (q0a q1k)))),?_⟩
  refine⟨_,rfl,_,_,_,true,rfl,.lst hp,q0y (by decide +kernel),_,rfl,iteF ?_⟩
  refine⟨_,rfl,p,rfl,⟨_,SqL.of hp⟩,?_⟩
  refine q25 (xs:=bs.map V.ref) (fun i σ H2=>∃ v1 v2:Option V,σ=[some (.ref p),v1,v2]∧H2=H) ⟨none,none,rfl,rfl⟩ (fun i σ H2 _ ⟨_,_,_,e⟩=>by rw[e];exact SqL.of hp) ?_ ?_
  ·rintro i x σ H2 hx ⟨v1,v2,rfl,rfl⟩
   rw[List.getElem?_map]at hx
   cases ea:bs[i]? with
   | none=>rw[ea]at hx;cases hx
   | some b =>
    rw[ea]at hx
    obtain rfl:V.ref b=x:=Option.some.inj hx
    have hi:i < rows.length:=by rw[← TR.1];exact(List.getElem?_eq_some_iff.mp ea).1
    obtain⟨l,as,hb,T⟩:=TR.2 i b _ ea (List.getElem?_eq_getElem hi)
    refine⟨_,rfl,_,_,_,true,rfl,.tup hb,q0y (by decide +kernel),_,rfl,iteF ?_⟩
    refine⟨_,rfl,b,_,rfl,.inr (SqT.of hb),rfl,_,rfl,q3u rfl ?_⟩
    refine⟨_,rfl,b,_,_,_,rfl,rfl,SqT.of hb,q08 (j:=0) rfl,_,_,_,true,rfl,.str _,q0y (by decide +kernel),_,rfl,iteF ?_⟩
    refine⟨_,rfl,b,_,_,_,rfl,rfl,SqT.of hb,q08 (j:=1) rfl,_,_,_,true,rfl,.lst T.ls,q0y (by decide +kernel),_,rfl,iteF ?_⟩
    refine⟨_,rfl,b,_,_,_,rfl,rfl,SqT.of hb,q08 (j:=1) rfl,l,rfl,⟨_,SqL.of T.ls⟩,?_⟩
    refine q25 (xs:=as.map V.ref) (fun i σ H2'=>∃ v2:Option V,σ=[some (.ref p),some (.ref b),v2]∧H2'=H2) ⟨_,rfl,rfl⟩ (fun i σ H2' _ ⟨_,_,e⟩=>by rw[e];exact SqL.of T.ls) ?_ ?_
    ·rintro j x σ H3 hx ⟨v2,rfl,rfl⟩
     rw[List.getElem?_map]at hx
     cases eb:as[j]? with
     | none=>rw[eb]at hx;cases hx
     | some a =>
      rw[eb]at hx
      obtain rfl:V.ref a=x:=Option.some.inj hx
      obtain⟨e,_,ha⟩:=T.en.get eb
      exact⟨_,rfl,a,e,rfl,ha,_,rfl,iteF ⟨_,rfl,rfl⟩⟩
    ·rintro σ H3 ⟨v2,rfl,rfl⟩
     exact⟨_,_,rfl,rfl⟩
  ·rintro σ H2 ⟨v1,v2,rfl,rfl⟩
   exact k
def q1p (H:Hp) (bs:List Addr) (F:Fb):Prop:=bs.length=F.length∧∀ (j:Nat) b kv,bs[j]? = some b→F[j]? = some kv→∃ c,H b=some (.tup [.ref c,kv.2])∧H c=some (.tup (kv.1.map kV))
theorem q1p.tk {H H':Hp} {bs:List Addr} {F:Fb} (h:q1p H bs F) (k:TK H H'):q1p H' bs F:=⟨h.1,fun j b kv e1 e2=>let ⟨c,h1,h2⟩:=h.2 j b kv e1 e2;⟨c,k _ _ h1,k _ _ h2⟩⟩
theorem q1p.same {H H':Hp} {bs:List Addr} {F:Fb} (h:q1p H bs F) (k:Kp [] H H'):q1p H' bs F:=h.tk (Kp.tk k (by simp))
theorem q6g {α β:Type} {R:α→β→Prop}:∀ {as:List α} {bs:List β} {i:Nat} {a:α},Paired R as bs→as[i]? = some a→∃ b,bs[i]? = some b∧R a b
 | _,_,_,_,.nil,e=>by simp at e
 | _,_,0,_,.cons r _,e=>by simp at e;subst e;exact⟨_,rfl,r⟩
 | _,_,i + 1,a,.cons _ t,e=>by
  obtain⟨x,h1,h2⟩:=q6g (i:=i) (a:=a) t (by simpa using e)
  exact⟨x,by simpa using h1,h2⟩
def q3e (H:Hp) (qs:List Addr) (Fs:List Fb):Prop:=qs.length=Fs.length∧∀ (i:Nat) q F,qs[i]? = some q→Fs[i]? = some F→∃ bs,H q=some (.lst (bs.map V.ref))∧q1p H bs F
theorem q3e.same {H H':Hp} {qs:List Addr} {Fs:List Fb} (h:q3e H qs Fs) (k:Kp [] H H'):q3e H' qs Fs:=⟨h.1,fun i q F e1 e2=>let ⟨bs,h1,h2⟩:=h.2 i q F e1 e2;⟨bs,k.get h1 nEm,h2.same k⟩⟩
def qh4:Sp:=fun vs H Q _=>∃ (l ld:Addr) (b:Int) (as:List Addr) (Ts:List Tb) (ad:List Addr) (ds:List Deed) (n:Nat),vs=[.ref l,.int b,.ref ld]∧StoryIn H l ld as Ts ad ds n ∧
 ∀ (p:Addr) (qs:List Addr) (H':Hp),H p=none→H' p=some (.lst (qs.map V.ref))→q3e H' qs ((runD (newR Ts b) ds).2.desks.map (·.2))→Kp [] H H'→Q (.ref p) H'
theorem qc3:FnScope ["stocks","bound","deeds"] ["stocks","bound","deeds"] (q06 qbg):=⟨rfl,rfl,rfl,by decide +kernel,rfl,by decide +kernel,by decide +kernel⟩
theorem qhm {f C Cd:Addr} {fd:FuncData} (Fn:Fun K "keys_after" "keys_after" qbg f fd) (T:TxtR K mg C) (Td:Txt K mg Cd) (B:Blt mg) (Drunner_after:Df P w K mg base CX0 11 "runner_after" ["stocks","bound","deeds"] (q5f C Cd)):FnOk P w K mg base CX0 12 f fd ["stocks","bound","deeds"] qh4:=by
 refine Fn.ok qc3 (fun vs H Q E h=> ?_) (fun cdv A outer sh H vs Q E hr h=> ?_)
 ·obtain⟨l,ld,b,as,Ts,ad,ds,n,rfl,_⟩:=h
  rfl
 ·obtain⟨l,ld,b,as,Ts,ad,ds,n,rfl,SI,k⟩:=h
  have nd:=qc3.nd
  refine⟨_,(q07 (q0a (q37 (NB:=["desk"]) (ix:=[none]) rfl ⟨rfl,rfl,by decide +kernel,by decide +kernel,trivial,rfl,rfl,rfl,trivial⟩ (q1l (q1a (q18 Drunner_after (hr.mono (by decide)) q0z (q00 (pv 0) (q00 (pv 1) (q00 (pv 2) q05)))) rfl)) (fun _ _ _ _ _=>(q0x (i:=0) (show (["desk"]:List Str).Nodup by decide +kernel) rfl (Or.inl rfl))) (fun _ _ _ _ _=>q3b) (fun _ _ _ _ _=>(q2b (qam rfl) rfl B.list_ PyProof.Rows.boot_list (q00 (qj0 (K:=K) rfl PySem.F.plainAttrs_dict PySem.F.slot_dict_items PySem.F.type_dict_items q6w (qhj (K:=K) rfl (pv 0) rfl)) q05)))))),?_⟩
  refine⟨_,rfl,_,rfl,_,rfl,l,ld,b,as,Ts,ad,ds,n,rfl,SI,fun r H1 I1=> ?_⟩
  obtain⟨tg,dl,wd,td,tr,lo,ps,wa,ta,Pp⟩:=I1.ex
  obtain⟨dx,ho⟩:=Pp.ob rfl
  have hdl:=Pp.hdl rfl
  have lR:ps.length=(runD (newR Ts b) ds).2.desks.length:=Pp.len
  have z9:ps.length≤900:=by
   rw[lR,(q2o _ _).1]
   simp[newR]
   exact SI.ok.z
  refine⟨r,C,dx,_,_,rfl,ho,T.cl,T.nDesks,q55 ..,dl,rfl,⟨_,SqL.of hdl⟩,fun D0 hD=> ?_⟩
  refine q2r (xs:=ps.map V.ref) (fun i σ ys H2=>∃ (v0:Option V) (cs:List Addr),σ=[v0]∧ys=cs.map V.ref∧cs.length=i∧(∀ (j:Nat) c F,cs[j]? = some c→((runD (newR Ts b) ds).2.desks.map (·.2))[j]? = some F→∃ bs,H2 c=some (.lst (bs.map V.ref))∧q1p H2 bs F∧c ≠ D0)∧Kp [] H1 H2∧H2 D0=some (.lst ys)) ?_ ?_ ?_ ?_
  ·exact⟨none,[],rfl,rfl,rfl,fun j c F e=>by simp at e,Kp.new hD,q03⟩
  ·rintro i σ ys H2 hi ⟨v0,cs,rfl,ey,lc,th,kp,hy⟩
   exact⟨SqL.of (kp.get hdl nEm),hy⟩
  ·rintro i x σ ys H2 hx ⟨v0,cs,rfl,ey,lc,th,kp,hy⟩
   rw[List.getElem?_map]at hx
   cases ea:ps[i]? with
   | none=>rw[ea]at hx;cases hx
   | some p =>
   rw[ea]at hx
   obtain rfl:V.ref p=x:=Option.some.inj hx
   have hip:i < ps.length:=(List.getElem?_eq_some_iff.mp ea).1
   have hd:i < (runD (newR Ts b) ds).2.desks.length:=by omega
   have ed:=List.getElem?_eq_getElem hd
   obtain⟨_,s,d,D,_,_⟩:=Pp.dk i p ((runD (newR Ts b) ds).2.desks[i]).1 ((runD (newR Ts b) ds).2.desks[i]).2 ea ed rfl rfl rfl
   have eF:((runD (newR Ts b) ds).2.desks.map (·.2))[i]? = some ((runD (newR Ts b) ds).2.desks[i]).2:=by rw[List.getElem?_map,ed];rfl
   generalize ((runD (newR Ts b) ds).2.desks[i]).2=F at D eF
   generalize ((runD (newR Ts b) ds).2.desks[i]).1=T' at D
   have D2:=D.same kp
   obtain⟨dp,hp⟩:=D2.ob
   refine⟨_,rfl,p,Cd,dp,_,_,rfl,hp,Td.cl,Td.nF,q2g _ _,.inr (.inr (.inl ⟨rfl,.inr ⟨_,D2.ft⟩⟩)),d,_,rfl,rfl,D2.ft,trivial,fun v hv=> ?_⟩
   have kv:Kp [] H2 (upd H2 v (.ext fun h=>h.IsItemsView v d)):=Kp.new hv
   refine⟨v,d,_,rfl,q03,kv.get D2.ft nEm,trivial,fun q bs prs H3 hq hq3 hps lbs hbs kp3=> ?_⟩
   have hps:Paired (fun (kv:List Key×V) (p:V×V)=>(∃ q,p.1= .ref q∧(upd H2 v (.ext fun h=>h.IsItemsView v d)) q=some (.tup (kv.1.map kV)))∧p.2=kv.2) F prs:=hps
   have KR:q1p H3 bs F:=by
    refine⟨lbs.trans (Paired.length hps).symm,fun j c fv e1 e2=> ?_⟩
    obtain⟨pr,e3,⟨⟨q',e4,e5⟩,e6⟩⟩:=q6g hps e2
    have:=hbs j c pr e1 e3
    rw[e4,e6]at this
    exact⟨q',this,kp3.get e5 nEm⟩
   have k23:=kv.trans kp3
   have hy3:=k23.get hy nEm
   have nq:q ≠ D0:=fun z=>by
    have:=kv.get hy nEm
    rw[z,this]at hq
    cases hq
   have tkp:TK H3 (upd H3 D0 (.lst (ys ++ [V.ref q]))):=Kp.tk (xs:=[D0]) (Kp.put (by simp)) fun c hc ys' e=>by simp at hc;subst hc;rw[hy3]at e;cases e
   refine⟨hy3,(by rw[ey,List.length_map,lc];exact q0n (by omega)),_,cs ++ [q],rfl,by rw[ey,List.map_append];rfl,by simp[lc],fun j c F' e1 e2=> ?_,?_,q03⟩
   ·by_cases hj:j < cs.length
    ·rw[List.getElem?_append_left hj]at e1
     obtain⟨bs',h1',h2',h3'⟩:=th j c F' e1 e2
     exact⟨bs',by rw[q0b h3'];exact k23.get h1' nEm,(h2'.same k23).tk tkp,h3'⟩
    ·have ej:j=cs.length:=by
      have:=(List.getElem?_eq_some_iff.mp e1).1
      simp at this
      omega
     subst ej
     rw[List.getElem?_append_right (Nat.le_refl _)]at e1
     simp at e1
     subst e1
     rw[lc,eF]at e2
     obtain rfl:F=F':=Option.some.inj e2
     exact⟨bs,by rw[q0b nq];exact hq3,KR.tk tkp,nq⟩
   ·intro c o e hn
    rw[q0b (q0d e hD)]
    exact(kp.trans k23) c o e hn
  ·rintro σ ys H2 ⟨v0,cs,rfl,ey,lc,th,kp,hy⟩
   subst ey
   have hDH:H D0=none:=by
    cases e:H D0 with
    | none=>rfl
    | some o=>have:=I1.kp.get e nEm;rw[hD]at this;cases this
   refine k D0 cs H2 hDH hy ⟨by rw[lc,List.length_map,List.length_map,lR],fun j c F e1 e2=> ?_⟩ (I1.kp.trans kp)
   obtain⟨bs,h1',h2',_⟩:=th j c F e1 e2
   exact⟨bs,h1',h2'⟩
def q45 (F:Fb):Prop:=∀ kv ∈ F,∃ (x:Str) (n:Int) (y:Str),kv=([Sum.inr x,Sum.inl n],.str y)
def qge:Sp:=fun vs H Q _=>∃ (p:Addr) (qs:List Addr) (Fs:List Fb) (c:Nat),vs=[.ref p,.int c]∧H p=some (.lst (qs.map V.ref))∧q3e H qs Fs∧Fs.length=c∧(∀ F ∈ Fs,q45 F)∧Q (.bl true) H
theorem qdz:FnScope ["_law_found","_law_count","_law_rows","_law_row"] ["_law_found","_law_count"] (q06 qau):=⟨rfl,rfl,rfl,by decide +kernel,rfl,by decide +kernel,by decide +kernel⟩
theorem qix {f:Addr} {fd:FuncData} (Fn:Fun K "_law_are_keys" "_law_are_keys" qau f fd) (B:Blt mg) (Dlaw_whole:Df P w K mg base CX0 1 "_law_whole" ["_law_found"] q7c):FnOk P w K mg base CX0 2 f fd ["_law_found","_law_count"] qge:=by
 refine Fn.ok qdz (fun vs H Q E h=> ?_) (fun cdv A outer s H vs Q E hr h=> ?_)
 ·obtain⟨p,qs,Fs,c,rfl,_⟩:=h
  rfl
 ·obtain⟨p,qs,Fs,c,rfl,hp,KA,lF,kw,k⟩:=h
  have nd:=qdz.nd
  refine⟨_,(q01 (q0q (PW.pt (q2u (q1g (q17 (q0e q0t rfl B.isinstance PyProof.Rows.boot_isinstance (q00 (pv 0) (q00 (q10 rfl B.list_ PyProof.Rows.boot_list (v:= .ty "list") rfl) q05))))) (q23 (q0f q4c (q0e q0m rfl B.len PySem.boot_len (q00 (pv 0) q05)) (pv 1) (q0i _)))))
   (q07 (q0a q1k))
   q0c)
   (q01 (q2e PassesOwn.never rfl (q1l (pv 0)) (q0x (i:=2) nd rfl (Or.inl rfl))
   (q01 (q0q (q1g (q17 (q0e q0t rfl B.isinstance PyProof.Rows.boot_isinstance (q00 (pv 2) (q00 (q10 rfl B.list_ PyProof.Rows.boot_list (v:= .ty "list") rfl) q05)))))
   (q07 (q0a q1k))
   q0c)
   (q07 (q2e PassesOwn.never rfl (q1l (pv 2)) (q0x (i:=3) nd rfl (Or.inl rfl))
   (q01 (q0q (PW.pt (q2u (q1g (q17 (q0e q0t rfl B.isinstance PyProof.Rows.boot_isinstance (q00 (pv 3) (q00 (q10 rfl B.tuple PyProof.Rows.boot_tuple (v:= .ty "tuple") rfl) q05))))) (q2u (q0f q4c (q0e q0m rfl B.len PySem.boot_len (q00 (pv 3) q05)) q02 (q0i _)) (q23 (q1g (q17 (q0e q0t rfl B.isinstance PyProof.Rows.boot_isinstance (q00 (q0k q0h (pv 3) q02 (fun _ _=>rfl)) (q00 (q10 rfl B.str PyProof.Rows.boot_str (v:= .ty "str") rfl) q05)))))))))
   (q07 (q0a q1k))
   q0c)
   (q01 (q0q (PW.pt (q2u (q1g (q17 (q0e q0t rfl B.isinstance PyProof.Rows.boot_isinstance (q00 (q0k q0h (pv 3) q02 (fun _ _=>rfl)) (q00 (q10 rfl B.tuple PyProof.Rows.boot_tuple (v:= .ty "tuple") rfl) q05))))) (q23 (q0f q4c (q0e q0m rfl B.len PySem.boot_len (q00 (q0k q0h (pv 3) q02 (fun _ _=>rfl)) q05)) q02 (q0i _)))))
   (q07 (q0a q1k))
   q0c)
   (q07 (q0q (PW.pt (q2u (q1g (q17 (q0e q0t rfl B.isinstance PyProof.Rows.boot_isinstance (q00 (q0k q0h (q0k q0h (pv 3) q02 (fun _ _=>rfl)) q02 (fun _ _=>rfl)) (q00 (q10 rfl B.str PyProof.Rows.boot_str (v:= .ty "str") rfl) q05))))) (q23 (q1g (q17 (q18 Dlaw_whole (hr.mono (by decide)) q0z (q00 (q0k q0h (q0k q0h (pv 3) q02 (fun _ _=>rfl)) q02 (fun _ _=>rfl)) q05)))))))
   (q07 (q0a q1k))
   q0c))))))))
   (q07 (q0a q1k)))),?_⟩
  refine⟨_,rfl,_,_,_,true,rfl,.lst hp,q0y (by decide +kernel),_,rfl,iteF ?_⟩
  refine⟨_,rfl,p,_,rfl,.inl (SqL.of hp),_,rfl,rfl,_,rfl,q3u (by rw[List.length_map,KA.1,lF]) ?_⟩
  refine⟨_,rfl,p,rfl,⟨_,SqL.of hp⟩,?_⟩
  refine q25 (xs:=qs.map V.ref) (fun i σ H2=>∃ v2 v3:Option V,σ=[some (.ref p),some (.int c),v2,v3]∧H2=H) ⟨none,none,rfl,rfl⟩ (fun i σ H2 _ ⟨_,_,_,e⟩=>by rw[e];exact SqL.of hp) ?_ ?_
  ·rintro i x σ H2 hx ⟨v2,v3,rfl,rfl⟩
   rw[List.getElem?_map]at hx
   cases eq:qs[i]? with
   | none=>rw[eq]at hx;cases hx
   | some q =>
   rw[eq]at hx
   obtain rfl:V.ref q=x:=Option.some.inj hx
   have hi:i < Fs.length:=by rw[← KA.1];exact(List.getElem?_eq_some_iff.mp eq).1
   obtain⟨bs,hq,KR⟩:=KA.2 i q _ eq (List.getElem?_eq_getElem hi)
   have kwF:=kw _ (List.getElem_mem hi)
   generalize Fs[i]=F at KR kwF
   refine⟨_,rfl,_,_,_,true,rfl,.lst hq,q0y (by decide +kernel),_,rfl,iteF ?_⟩
   refine⟨_,rfl,q,rfl,⟨_,SqL.of hq⟩,?_⟩
   refine q25 (xs:=bs.map V.ref) (fun i σ H2'=>∃ v3:Option V,σ=[some (.ref p),some (.int c),some (.ref q),v3]∧H2'=H2) ⟨_,rfl,rfl⟩ (fun i σ H2' _ ⟨_,_,e⟩=>by rw[e];exact SqL.of hq) ?_ ?_
   ·rintro j x σ H3 hx ⟨v3,rfl,rfl⟩
    rw[List.getElem?_map]at hx
    cases eb:bs[j]? with
    | none=>rw[eb]at hx;cases hx
    | some b =>
     rw[eb]at hx
     obtain rfl:V.ref b=x:=Option.some.inj hx
     have hj:j < F.length:=by rw[← KR.1];exact(List.getElem?_eq_some_iff.mp eb).1
     obtain⟨c',hb,hc⟩:=KR.2 j b _ eb (List.getElem?_eq_getElem hj)
     obtain⟨x,n,y,e⟩:=kwF _ (List.getElem_mem hj)
     rw[e]at hb hc
     have hc:H3 c'=some (.tup [.str x,.int n]):=hc
     have hb:H3 b=some (.tup [.ref c',.str y]):=hb
     refine⟨_,rfl,_,_,_,true,rfl,.tup hb,q0y (by decide +kernel),_,rfl,iteF ?_⟩
     refine⟨_,rfl,b,_,rfl,.inr (SqT.of hb),rfl,_,rfl,q3u rfl ?_⟩
     refine⟨_,rfl,b,_,_,_,rfl,rfl,SqT.of hb,q08 (j:=1) rfl,_,_,_,true,rfl,.str _,q0y (by decide +kernel),_,rfl,iteF ?_⟩
     refine⟨_,rfl,b,_,_,_,rfl,rfl,SqT.of hb,q08 (j:=0) rfl,_,_,_,true,rfl,.tup hc,q0y (by decide +kernel),_,rfl,iteF ?_⟩
     refine⟨_,rfl,b,_,_,_,rfl,rfl,SqT.of hb,q08 (j:=0) rfl,c',_,rfl,.inr (SqT.of hc),rfl,_,rfl,q3u rfl ?_⟩
     refine⟨_,rfl,b,_,_,_,rfl,rfl,SqT.of hb,q08 (j:=0) rfl,c',_,_,_,rfl,rfl,SqT.of hc,q08 (j:=0) rfl,_,_,_,true,rfl,.str _,q0y (by decide +kernel),_,rfl,iteF ?_⟩
     exact⟨_,rfl,b,_,_,_,rfl,rfl,SqT.of hb,q08 (j:=0) rfl,c',_,_,_,rfl,rfl,SqT.of hc,q08 (j:=1) rfl,_,rfl,_,rfl,iteF ⟨_,rfl,rfl⟩⟩
   ·rintro σ H3 ⟨v3,rfl,rfl⟩
    exact⟨_,_,rfl,rfl⟩
  ·rintro σ H2 ⟨v2,v3,rfl,rfl⟩
   exact k
def qdb (H:Hp) (cs:List Addr) (rowss:List (List (Str×Int))):Prop:=cs.length=rowss.length∧∀ (j:Nat) c rows,cs[j]? = some c→rowss[j]? = some rows→∃ bs rows',H c=some (.lst (bs.map V.ref))∧rows'.Perm rows∧q35 rows'∧q2j H bs (q5c rows')
theorem qdb.same {H H':Hp} {cs:List Addr} {rowss:List (List (Str×Int))} (h:qdb H cs rowss) (k:Kp [] H H'):qdb H' cs rowss:=⟨h.1,fun j c rows e1 e2=>let ⟨bs,rows',h1,h2,h3,h4⟩:=h.2 j c rows e1 e2;⟨bs,rows',k.get h1 nEm,h2,h3,h4.same k⟩⟩
def qcz:Sp:=fun vs H Q _=>∃ (p:Addr) (cs:List Addr) (rowss:List (List (Str×Int))) (c:Nat),vs=[.ref p,.int c]∧H p=some (.lst (cs.map V.ref))∧qdb H cs rowss∧rowss.length=c∧Q (.bl true) H
theorem q9i:FnScope ["_law_found","_law_count","_law_rows","_law_row"] ["_law_found","_law_count"] (q06 q66):=⟨rfl,rfl,rfl,by decide +kernel,rfl,by decide +kernel,by decide +kernel⟩
theorem qfv {f:Addr} {fd:FuncData} (Fn:Fun K "_law_are_things" "_law_are_things" q66 f fd) (B:Blt mg) (Dlaw_whole:Df P w K mg base CX0 1 "_law_whole" ["_law_found"] q7c):FnOk P w K mg base CX0 2 f fd ["_law_found","_law_count"] qcz:=by
 refine Fn.ok q9i (fun vs H Q E h=> ?_) (fun cdv A outer s H vs Q E hr h=> ?_)
 ·obtain⟨p,cs,rowss,c,rfl,_⟩:=h
  rfl
 ·obtain⟨p,cs,rowss,c,rfl,hp,TA,lF,k⟩:=h
  have nd:=q9i.nd
  refine⟨_,(q01 (q0q (PW.pt (q2u (q1g (q17 (q0e q0t rfl B.isinstance PyProof.Rows.boot_isinstance (q00 (pv 0) (q00 (q10 rfl B.list_ PyProof.Rows.boot_list (v:= .ty "list") rfl) q05))))) (q23 (q0f q4c (q0e q0m rfl B.len PySem.boot_len (q00 (pv 0) q05)) (pv 1) (q0i _)))))
   (q07 (q0a q1k))
   q0c)
   (q01 (q2e PassesOwn.never rfl (q1l (pv 0)) (q0x (i:=2) nd rfl (Or.inl rfl))
   (q01 (q0q (q1g (q17 (q0e q0t rfl B.isinstance PyProof.Rows.boot_isinstance (q00 (pv 2) (q00 (q10 rfl B.list_ PyProof.Rows.boot_list (v:= .ty "list") rfl) q05)))))
   (q07 (q0a q1k))
   q0c)
   (q07 (q2e PassesOwn.never rfl (q1l (pv 2)) (q0x (i:=3) nd rfl (Or.inl rfl))
   (q01 (q0q (PW.pt (q2u (q1g (q17 (q0e q0t rfl B.isinstance PyProof.Rows.boot_isinstance (q00 (pv 3) (q00 (q10 rfl B.tuple PyProof.Rows.boot_tuple (v:= .ty "tuple") rfl) q05))))) (q23 (q0f q4c (q0e q0m rfl B.len PySem.boot_len (q00 (pv 3) q05)) q02 (q0i _)))))
   (q07 (q0a q1k))
   q0c)
   (q07 (q0q (PW.pt (q2u (q1g (q17 (q0e q0t rfl B.isinstance PyProof.Rows.boot_isinstance (q00 (q0k q0h (pv 3) q02 (fun _ _=>rfl)) (q00 (q10 rfl B.str PyProof.Rows.boot_str (v:= .ty "str") rfl) q05))))) (q23 (q1g (q17 (q18 Dlaw_whole (hr.mono (by decide)) q0z (q00 (q0k q0h (pv 3) q02 (fun _ _=>rfl)) q05)))))))
   (q07 (q0a q1k))
   q0c)))))))
   (q07 (q0a q1k)))),?_⟩
  refine⟨_,rfl,_,_,_,true,rfl,.lst hp,q0y (by decide +kernel),_,rfl,iteF ?_⟩
  refine⟨_,rfl,p,_,rfl,.inl (SqL.of hp),_,rfl,rfl,_,rfl,q3u (by rw[List.length_map,TA.1,lF]) ?_⟩
  refine⟨_,rfl,p,rfl,⟨_,SqL.of hp⟩,?_⟩
  refine q25 (xs:=cs.map V.ref) (fun i σ H2=>∃ v2 v3:Option V,σ=[some (.ref p),some (.int c),v2,v3]∧H2=H) ⟨none,none,rfl,rfl⟩ (fun i σ H2 _ ⟨_,_,_,e⟩=>by rw[e];exact SqL.of hp) ?_ ?_
  ·rintro i x σ H2 hx ⟨v2,v3,rfl,rfl⟩
   rw[List.getElem?_map]at hx
   cases eq:cs[i]? with
   | none=>rw[eq]at hx;cases hx
   | some q =>
   rw[eq]at hx
   obtain rfl:V.ref q=x:=Option.some.inj hx
   have hi:i < rowss.length:=by rw[← TA.1];exact(List.getElem?_eq_some_iff.mp eq).1
   obtain⟨bs,rows',hq,_,_,TR⟩:=TA.2 i q _ eq (List.getElem?_eq_getElem hi)
   generalize q5c rows'=rr at TR
   refine⟨_,rfl,_,_,_,true,rfl,.lst hq,q0y (by decide +kernel),_,rfl,iteF ?_⟩
   refine⟨_,rfl,q,rfl,⟨_,SqL.of hq⟩,?_⟩
   refine q25 (xs:=bs.map V.ref) (fun i σ H2'=>∃ v3:Option V,σ=[some (.ref p),some (.int c),some (.ref q),v3]∧H2'=H2) ⟨_,rfl,rfl⟩ (fun i σ H2' _ ⟨_,_,e⟩=>by rw[e];exact SqL.of hq) ?_ ?_
   ·rintro j x σ H3 hx ⟨v3,rfl,rfl⟩
    rw[List.getElem?_map]at hx
    cases eb:bs[j]? with
    | none=>rw[eb]at hx;cases hx
    | some b =>
     rw[eb]at hx
     obtain rfl:V.ref b=x:=Option.some.inj hx
     have hj:j < rr.length:=by rw[← TR.1];exact(List.getElem?_eq_some_iff.mp eb).1
     have hb:=TR.2 j b _ eb (List.getElem?_eq_getElem hj)
     generalize rr[j]=row at hb
     refine⟨_,rfl,_,_,_,true,rfl,.tup hb,q0y (by decide +kernel),_,rfl,iteF ?_⟩
     refine⟨_,rfl,b,_,rfl,.inr (SqT.of hb),rfl,_,rfl,q3u rfl ?_⟩
     refine⟨_,rfl,b,_,_,_,rfl,rfl,SqT.of hb,q08 (j:=0) rfl,_,_,_,true,rfl,.str _,q0y (by decide +kernel),_,rfl,iteF ?_⟩
     exact⟨_,rfl,b,_,_,_,rfl,rfl,SqT.of hb,q08 (j:=1) rfl,_,rfl,_,rfl,iteF ⟨_,rfl,rfl⟩⟩
   ·rintro σ H3 ⟨v3,rfl,rfl⟩
    exact⟨_,_,rfl,rfl⟩
  ·rintro σ H2 ⟨v2,v3,rfl,rfl⟩
   exact k
inductive Sm (H:Hp):Nat→V→V→Prop
 | non {n:Nat}:Sm H n .non .non
 | bl {n:Nat} (b:Bool):Sm H n (.bl b) (.bl b)
 | int {n:Nat} (i:Int):Sm H n (.int i) (.int i)
 | str {n:Nat} (s:Str):Sm H n (.str s) (.str s)
 | tup {n:Nat} {a b:Addr} {xs ys:List V} (ha:H a=some (.tup xs)) (hb:H b=some (.tup ys)) (hl:xs.length=ys.length) (hz:xs.length≤1000) (h:∀ (j:Nat) x y,xs[j]? = some x→ys[j]? = some y→Sm H n x y):Sm H (n + 1) (.ref a) (.ref b)
 | lst {n:Nat} {a b:Addr} {xs ys:List V} (ha:H a=some (.lst xs)) (hb:H b=some (.lst ys)) (hl:xs.length=ys.length) (hz:xs.length≤1000) (h:∀ (j:Nat) x y,xs[j]? = some x→ys[j]? = some y→Sm H n x y):Sm H (n + 1) (.ref a) (.ref b)
theorem Sm.same {H H':Hp} {n:Nat} {x y:V} (h:Sm H n x y) (k:Kp [] H H'):Sm H' n x y:=by
 induction h with
 | non=>exact .non
 | bl b=>exact .bl b
 | int i=>exact .int i
 | str s=>exact .str s
 | tup ha hb hl hz _ ih=>exact .tup (k.get ha nEm) (k.get hb nEm) hl hz ih
 | lst ha hb hl hz _ ih=>exact .lst (k.get ha nEm) (k.get hb nEm) hl hz ih
def spSo (n:Nat):Sp:=fun vs H Q _=>∃ x y:V,vs=[x,y]∧Sm H n x y∧∀ H',Kp [] H H'→Q (.bl true) H'
theorem qjz:FnScope ["_law_found","_law_meant","_law_k"] ["_law_found","_law_meant"] (q06 sSo):=⟨rfl,rfl,rfl,by decide +kernel,rfl,by decide +kernel,by decide +kernel⟩
theorem ql5 {f:Addr} {fd:FuncData} (Fn:Fun K "_law_so" "_law_so" sSo f fd) (B:Blt mg) {n:Nat} {sp:Sp} (Dlaw_so:Df P w K mg base CX0 n "_law_so" ["_law_found","_law_meant"] sp) (hsp:∀ (m:Nat) (vs:List V) (H:Hp) (Q:VK) (E:XK),n=m + 1→spSo m vs H Q E→sp vs H Q E):FnOk P w K mg base CX0 (n + 1) f fd ["_law_found","_law_meant"] (spSo n):=by
 refine Fn.ok qjz (fun vs H Q E h=> ?_) (fun cdv A outer s H vs Q E hr h=> ?_)
 ·obtain⟨x,y,rfl,_⟩:=h
  rfl
 ·obtain⟨x,y,rfl,S,k⟩:=h
  have nd:=qjz.nd
  refine⟨_,(q01 (q0q (q3w (q5q (pv 1)))
   (q07 (q0a (qgw (q5q (pv 0)))))
   q0c)
   (q01 (q0q (q17 (q0e q0t rfl B.isinstance PyProof.Rows.boot_isinstance (q00 (pv 1) (q00 (q10 rfl B.bool PyProof.Rows.boot_bool (v:= .ty "bool") rfl) q05))))
   (q07 (q0a (q4a (q0e q0t rfl B.isinstance PyProof.Rows.boot_isinstance (q00 (pv 0) (q00 (q10 rfl B.bool PyProof.Rows.boot_bool (v:= .ty "bool") rfl) q05))) (q4z (q2z q1i (pv 0) (pv 1) (q0i _))))))
   q0c)
   (q01 (q0q (q17 (q0e q0t rfl B.isinstance PyProof.Rows.boot_isinstance (q00 (pv 1) (q00 (q10 rfl B.int_ PyProof.Rows.boot_int (v:= .ty "int") rfl) q05))))
   (q07 (q0a (q4a (q0e q0t rfl B.isinstance PyProof.Rows.boot_isinstance (q00 (pv 0) (q00 (q10 rfl B.int_ PyProof.Rows.boot_int (v:= .ty "int") rfl) q05))) (q4a (qgx (q0e q0t rfl B.isinstance PyProof.Rows.boot_isinstance (q00 (pv 0) (q00 (q10 rfl B.bool PyProof.Rows.boot_bool (v:= .ty "bool") rfl) q05)))) (q4z (q2z q1i (pv 0) (pv 1) (q0i _)))))))
   q0c)
   (q01 (q0q (q17 (q0e q0t rfl B.isinstance PyProof.Rows.boot_isinstance (q00 (pv 1) (q00 (q10 rfl B.str PyProof.Rows.boot_str (v:= .ty "str") rfl) q05))))
   (q07 (q0a (q4a (q0e q0t rfl B.isinstance PyProof.Rows.boot_isinstance (q00 (pv 0) (q00 (q10 rfl B.str PyProof.Rows.boot_str (v:= .ty "str") rfl) q05))) (q4z (q2z q1i (pv 0) (pv 1) (q0i _))))))
   q0c)
   (q01 (q0q (q17 (q0e q0t rfl B.isinstance PyProof.Rows.boot_isinstance (q00 (pv 1) (q00 (q10 rfl B.dict PyProof.Rows.boot_dict (v:= .ty "dict") rfl) q05))))
   (q07 qg7)
   q0c)
   (q01 (q0q (q0f q4c (q0e q0t rfl B.isinstance PyProof.Rows.boot_isinstance (q00 (pv 1) (q00 (q10 rfl B.tuple PyProof.Rows.boot_tuple (v:= .ty "tuple") rfl) q05))) (q0e q0t rfl B.isinstance PyProof.Rows.boot_isinstance (q00 (pv 0) (q00 (q10 rfl B.tuple PyProof.Rows.boot_tuple (v:= .ty "tuple") rfl) q05))) (q0i _))
   (q07 (q0a q1k))
   q0c)
   (q01 (q0q (PW.pt (q2u (q0f q4c (q0e q0t rfl B.isinstance PyProof.Rows.boot_isinstance (q00 (pv 1) (q00 (q10 rfl B.list_ PyProof.Rows.boot_list (v:= .ty "list") rfl) q05))) (q0e q0t rfl B.isinstance PyProof.Rows.boot_isinstance (q00 (pv 0) (q00 (q10 rfl B.list_ PyProof.Rows.boot_list (v:= .ty "list") rfl) q05))) (q0i _)) (q23 (q1g (q17 (q0e qay rfl B.isinstance PyProof.Rows.boot_isinstance (q00 (pv 1) (q00 (q19 (q00 (q10 rfl B.list_ PyProof.Rows.boot_list (v:= .ty "list") rfl) (q00 (q10 rfl B.tuple PyProof.Rows.boot_tuple (v:= .ty "tuple") rfl) q05))) q05))))))))
   (q07 (q0a q1k))
   q0c)
   (q01 (q0q (q0f q4c (q0e q0m rfl B.len PySem.boot_len (q00 (pv 0) q05)) (q0e q0m rfl B.len PySem.boot_len (q00 (pv 1) q05)) (q0i _))
   (q07 (q0a q1k))
   q0c)
   (q01 (q2e PassesOwn.never rfl (q2h rfl B.range (q00 (q0e q0m rfl B.len PySem.boot_len (q00 (pv 1) q05)) q05)) (q0x (i:=2) nd rfl (Or.inl rfl))
   (q07 (q0q (q1g (q17 (q18 Dlaw_so (hr.mono (Nat.le_refl _)) q0z (q00 (q0k (q13.or q0h) (pv 0) (pv 2) (fun _ _=>rfl)) (q00 (q0k (q13.or q0h) (pv 1) (pv 2) (fun _ _=>rfl)) q05)))))
   (q07 (q0a q1k))
   q0c)))
   (q07 (q0a q1k))))))))))),?_⟩
  have big:(1000:Nat)≤sizeLine:=by decide
  cases S with
  | non =>
   refine⟨_,rfl,_,rfl,iteD rfl ?_⟩
   exact⟨_,rfl,k H (Kp.refl _ _)⟩
  | bl b =>
   refine⟨_,rfl,_,rfl,q14 (by intro z;cases z) ?_⟩
   refine⟨_,rfl,_,_,_,true,rfl,.bl _,q0y (by decide +kernel),_,rfl,iteT ?_⟩
   refine⟨_,rfl,_,_,_,true,rfl,.bl _,q0y (by decide +kernel),_,rfl,iteT ?_⟩
   refine⟨_,rfl,_,rfl,rfl,?_⟩
   rw[decide_eq_true rfl]
   exact k H (Kp.refl _ _)
  | int i =>
   refine⟨_,rfl,_,rfl,q14 (by intro z;cases z) ?_⟩
   refine⟨_,rfl,_,_,_,false,rfl,.int _,q0y (by decide +kernel),_,rfl,iteF ?_⟩
   refine⟨_,rfl,_,_,_,true,rfl,.int _,q0y (by decide +kernel),_,rfl,iteT ?_⟩
   refine⟨_,rfl,_,_,_,true,rfl,.int _,q0y (by decide +kernel),_,rfl,iteT ?_⟩
   refine⟨_,rfl,_,_,_,false,rfl,.int _,q0y (by decide +kernel),_,rfl,_,rfl,iteT ?_⟩
   refine⟨_,rfl,_,rfl,rfl,?_⟩
   rw[decide_eq_true rfl]
   exact k H (Kp.refl _ _)
  | str z =>
   refine⟨_,rfl,_,rfl,q14 (by intro z;cases z) ?_⟩
   refine⟨_,rfl,_,_,_,false,rfl,.str _,q0y (by decide +kernel),_,rfl,iteF ?_⟩
   refine⟨_,rfl,_,_,_,false,rfl,.str _,q0y (by decide +kernel),_,rfl,iteF ?_⟩
   refine⟨_,rfl,_,_,_,true,rfl,.str _,q0y (by decide +kernel),_,rfl,iteT ?_⟩
   refine⟨_,rfl,_,_,_,true,rfl,.str _,q0y (by decide +kernel),_,rfl,iteT ?_⟩
   refine⟨_,rfl,_,rfl,rfl,?_⟩
   rw[decide_eq_true rfl]
   exact k H (Kp.refl _ _)
  | @tup m a b xs ys ha hb hl hz h =>
   refine⟨_,rfl,_,rfl,q14 (by intro z;cases z) ?_⟩
   refine⟨_,rfl,_,_,_,false,rfl,.tup hb,q0y (by decide +kernel),_,rfl,iteF ?_⟩
   refine⟨_,rfl,_,_,_,false,rfl,.tup hb,q0y (by decide +kernel),_,rfl,iteF ?_⟩
   refine⟨_,rfl,_,_,_,false,rfl,.tup hb,q0y (by decide +kernel),_,rfl,iteF ?_⟩
   refine⟨_,rfl,_,_,_,false,rfl,.tup hb,q0y (by decide +kernel),_,rfl,iteF ?_⟩
   refine⟨_,rfl,_,_,_,true,rfl,.tup hb,q0y (by decide +kernel),_,rfl,_,_,_,true,rfl,.tup ha,q0y (by decide +kernel),rfl,_,rfl,q3u rfl ?_⟩
   refine⟨_,rfl,_,_,_,false,rfl,.tup hb,q0y (by decide +kernel),_,rfl,_,_,_,false,rfl,.tup ha,q0y (by decide +kernel),rfl,_,rfl,q3u rfl ?_⟩
   refine⟨_,rfl,(by show 2≤sizeLine;decide),fun tp htp=> .inl ⟨b,tp,ys,["list","tuple"],true,rfl,?_,q03,rfl,_,rfl,?_⟩⟩
   ·exact(Kp.new (ex:=[]) htp).get hb nEm
   refine iteF ?_
   have kp1:Kp [] H (upd H tp (.tup [V.ty "list",V.ty "tuple"])):=Kp.new htp
   generalize upd H tp (.tup [V.ty "list",V.ty "tuple"])=H1 at kp1
   have ha1:=kp1.get ha nEm
   have hb1:=kp1.get hb nEm
   refine⟨_,rfl,a,_,rfl,.inr (SqT.of ha1),_,rfl,b,_,rfl,.inr (SqT.of hb1),rfl,_,rfl,q3u (by rw[hl]) ?_⟩
   refine⟨_,rfl,b,_,rfl,.inr (SqT.of hb1),?_⟩
   refine⟨_,rfl,by omega,by omega,?_⟩
   have en:((ys.length:Int)).toNat=ys.length:=by omega
   refine q26 (lo:=0) (n:=((ys.length:Int)).toNat) (fun i σ H2=>∃ v,σ=[some (.ref a),some (.ref b),v]∧Kp [] H H2) ⟨none,rfl,kp1⟩ ?_ ?_
   ·rintro i σ H2 hi ⟨v,rfl,kp2⟩
    rw[en]at hi
    have hia:i < xs.length:=by omega
    have exa:=List.getElem?_eq_getElem hia
    have exb:=List.getElem?_eq_getElem hi
    have e0:(0:Int) + (i:Int)=(i:Int):=by omega
    refine⟨_,rfl,_,rfl,.inr ⟨a,_,_,xs[i],rfl,rfl,SqT.of (kp2.get ha nEm),(by rw[e0];exact q08 exa),?_⟩⟩
    refine⟨_,rfl,_,rfl,.inr ⟨b,_,_,ys[i],rfl,rfl,SqT.of (kp2.get hb nEm),(by rw[e0];exact q08 exb),?_⟩⟩
    refine hsp m _ _ _ _ rfl ⟨xs[i],ys[i],rfl,(h i _ _ exa exb).same kp2,fun H3 kp3=>⟨_,rfl,iteF ?_⟩⟩
    exact⟨_,rfl,kp2.trans kp3⟩
   ·rintro σ H2 ⟨v,rfl,kp2⟩
    exact k _ kp2
  | @lst m a b xs ys ha hb hl hz h =>
   refine⟨_,rfl,_,rfl,q14 (by intro z;cases z) ?_⟩
   refine⟨_,rfl,_,_,_,false,rfl,.lst hb,q0y (by decide +kernel),_,rfl,iteF ?_⟩
   refine⟨_,rfl,_,_,_,false,rfl,.lst hb,q0y (by decide +kernel),_,rfl,iteF ?_⟩
   refine⟨_,rfl,_,_,_,false,rfl,.lst hb,q0y (by decide +kernel),_,rfl,iteF ?_⟩
   refine⟨_,rfl,_,_,_,false,rfl,.lst hb,q0y (by decide +kernel),_,rfl,iteF ?_⟩
   refine⟨_,rfl,_,_,_,false,rfl,.lst hb,q0y (by decide +kernel),_,rfl,_,_,_,false,rfl,.lst ha,q0y (by decide +kernel),rfl,_,rfl,q3u rfl ?_⟩
   refine⟨_,rfl,_,_,_,true,rfl,.lst hb,q0y (by decide +kernel),_,rfl,_,_,_,true,rfl,.lst ha,q0y (by decide +kernel),rfl,_,rfl,q3u rfl ?_⟩
   refine⟨_,rfl,(by show 2≤sizeLine;decide),fun tp htp=> .inr ⟨b,tp,ys,["list","tuple"],true,rfl,?_,q03,rfl,_,rfl,?_⟩⟩
   ·exact(Kp.new (ex:=[]) htp).get hb nEm
   refine iteF ?_
   have kp1:Kp [] H (upd H tp (.tup [V.ty "list",V.ty "tuple"])):=Kp.new htp
   generalize upd H tp (.tup [V.ty "list",V.ty "tuple"])=H1 at kp1
   have ha1:=kp1.get ha nEm
   have hb1:=kp1.get hb nEm
   refine⟨_,rfl,a,_,rfl,.inl (SqL.of ha1),_,rfl,b,_,rfl,.inl (SqL.of hb1),rfl,_,rfl,q3u (by rw[hl]) ?_⟩
   refine⟨_,rfl,b,_,rfl,.inl (SqL.of hb1),?_⟩
   refine⟨_,rfl,by omega,by omega,?_⟩
   have en:((ys.length:Int)).toNat=ys.length:=by omega
   refine q26 (lo:=0) (n:=((ys.length:Int)).toNat) (fun i σ H2=>∃ v,σ=[some (.ref a),some (.ref b),v]∧Kp [] H H2) ⟨none,rfl,kp1⟩ ?_ ?_
   ·rintro i σ H2 hi ⟨v,rfl,kp2⟩
    rw[en]at hi
    have hia:i < xs.length:=by omega
    have exa:=List.getElem?_eq_getElem hia
    have exb:=List.getElem?_eq_getElem hi
    have e0:(0:Int) + (i:Int)=(i:Int):=by omega
    refine⟨_,rfl,_,rfl,.inl ⟨a,_,_,xs[i],rfl,rfl,SqL.of (kp2.get ha nEm),(by rw[e0];exact q08 exa),?_⟩⟩
    refine⟨_,rfl,_,rfl,.inl ⟨b,_,_,ys[i],rfl,rfl,SqL.of (kp2.get hb nEm),(by rw[e0];exact q08 exb),?_⟩⟩
    refine hsp m _ _ _ _ rfl ⟨xs[i],ys[i],rfl,(h i _ _ exa exb).same kp2,fun H3 kp3=>⟨_,rfl,iteF ?_⟩⟩
    exact⟨_,rfl,kp2.trans kp3⟩
   ·rintro σ H2 ⟨v,rfl,kp2⟩
    exact k _ kp2
theorem qh6 {f:Addr} {fd:FuncData} (Fn:Fun K "_law_so" "_law_so" sSo f fd) (B:Blt mg) (hm:mg "_law_so" = some (.ref f)) (hk:PySem.W.keepIn K (.ref f)=true) (hb:q4g K fd ["_law_found","_law_meant"] []):∀ n,FnOk P w K mg base CX0 (n + 1) f fd ["_law_found","_law_meant"] (spSo n)
 | 0=>ql5 Fn B (n:=0) (sp:=fun _ _ _ _=>False) ⟨⟨f,fd,hm,hk,hb,⟨fun _ _ _ _ h=>h.elim,fun _ _ _ _ _ _ _ _ _ _ _ _ _ h=>h.elim⟩⟩⟩ (fun m vs H Q E e=>by omega)
 | n + 1=>ql5 Fn B (n:=n + 1) (sp:=spSo n) ⟨⟨f,fd,hm,hk,hb,qh6 Fn B hm hk hb n⟩⟩ (fun m vs H Q E e h=>by cases e;exact h)
def qgl:Sp:=fun vs H Q _=>∃ (l ld:Addr) (b:Int) (as:List Addr) (Ts:List Tb) (ad:List Addr) (ds:List Deed) (n:Nat),vs=[.ref l,.int b,.ref ld]∧StoryIn H l ld as Ts ad ds n ∧
 ∀ (p:Addr) (las:List Addr) (H':Hp),H p=none→H' p=some (.lst (las.map V.ref))→Losts H' las (runD (newR Ts b) ds).2.lost→Kp [] H H'→Q (.ref p) H'
theorem qev:FnScope ["stocks","bound","deeds"] ["stocks","bound","deeds"] (q06 q6m):=⟨rfl,rfl,rfl,by decide +kernel,rfl,by decide +kernel,by decide +kernel⟩
theorem qep {f C Cd:Addr} {fd:FuncData} (Fn:Fun K "lost_after" "lost_after" q6m f fd) (T:TxtR K mg C) (Drunner_after:Df P w K mg base CX0 11 "runner_after" ["stocks","bound","deeds"] (q5f C Cd)):FnOk P w K mg base CX0 12 f fd ["stocks","bound","deeds"] qgl:=by
 refine Fn.ok qev (fun vs H Q E h=> ?_) (fun cdv A outer sh H vs Q E hr h=> ?_)
 ·obtain⟨l,ld,b,as,Ts,ad,ds,n,rfl,_⟩:=h
  rfl
 ·obtain⟨l,ld,b,as,Ts,ad,ds,n,rfl,SI,k⟩:=h
  refine⟨_,(q07 (q0a (q1a (q18 Drunner_after (hr.mono (by decide)) q0z (q00 (pv 0) (q00 (pv 1) (q00 (pv 2) q05)))) rfl))),?_⟩
  refine⟨_,rfl,_,rfl,_,rfl,l,ld,b,as,Ts,ad,ds,n,rfl,SI,fun r H1 I1=> ?_⟩
  obtain⟨tg,dl,wd,td,tr,lo,ps,wa,ta,Pp⟩:=I1.ex
  obtain⟨dx,ho⟩:=Pp.ob rfl
  obtain⟨las,hlo,L⟩:=Pp.hlo rfl
  refine⟨r,C,dx,_,_,rfl,ho,T.cl,T.nLost,q6z ..,?_⟩
  refine k lo las H1 ?_ hlo L I1.kp
  cases e:H lo with
  | none=>rfl
  | some o =>
   have:=Pp.fr lo o e
   rw[Pp.tlo]at this
   cases this
end
def Rel (m:Int) (t:List En) (c:Nx):Prop:=(back t=none∧(t.length:Int)≤m∧c=doD m t.length)∨∃ b,back t=some b∧c=unD b
theorem Rel.next {m:Int} {t:List En} {c:Nx} (h:Rel m t c):c=qfx m t:=by
 unfold qfx
 rcases h with ⟨h1,h2,rfl⟩ | ⟨b,h1,rfl⟩
 ·rw[h1]
  unfold doD
  dsimp only
  by_cases e:(t.length:Int)=m
  ·rw[if_pos e,if_neg (by omega)]
  ·rw[if_neg e,if_pos (by omega)]
 ·rw[h1]
  unfold unD
  dsimp only
  by_cases e:b < 0
  ·rw[if_pos e,if_neg (by omega)]
  ·rw[if_neg e,if_pos (by omega)]
theorem w_ne:¬ (("did" : Str)= "no")∧¬ (("did" : Str)= "unsure")∧¬ (("did" : Str)= "undid")∧¬ (("no" : Str)= "did")∧¬ (("no" : Str)= "unsure")∧¬ (("unsure" : Str)= "did")∧¬ (("unsure" : Str)= "no")∧¬ (("undid" : Str)= "did")∧¬ (("undid" : Str)= "unsure")∧¬ (("undid" : Str)= "no"):=by decide +kernel
theorem Rel.step {m:Int} {t:List En} {c:Nx} {e:En} (h:Rel m t c) (hs:q8p e c=true):Rel m (t ++ [e]) (nb m e):=by
 obtain⟨n1,n2,n3,n4,n5,n6,n7,n8,n9,n10⟩:=w_ne
 obtain⟨y,i⟩:=e
 unfold Rel
 rw[q88]
 unfold qga nb
 dsimp only
 rcases h with ⟨h1,h2,rfl⟩ | ⟨b,h1,rfl⟩
 ·unfold doD at hs
  split at hs
  ·rename_i hlt
   have hs:=of_decide_eq_true hs
   dsimp only at hs
   obtain⟨hw,rfl⟩:=hs
   rcases hw with rfl | rfl | rfl
   ·refine .inl ⟨?_,?_,?_⟩
    ·rw[if_neg n1,if_neg n2,if_neg n3];exact h1
    ·simp;omega
    ·rw[if_pos rfl];simp
   ·refine .inr ⟨_,by rw[if_pos rfl],?_⟩
    rw[if_neg n4,if_neg n5]
   ·refine .inr ⟨_,by rw[if_neg n7,if_pos rfl],?_⟩
    rw[if_neg n6,if_pos rfl]
  ·cases hs
 ·unfold unD at hs
  split at hs
  ·have hs:=of_decide_eq_true hs
   dsimp only at hs
   obtain⟨rfl,rfl⟩:=hs
   refine .inr ⟨_,by rw[if_neg n10,if_neg n9,if_pos rfl],?_⟩
   rw[if_neg n8,if_neg n9]
  ·cases hs
theorem qj9 {m:Int} (hm:0≤m):Rel m [] (nxOf m []):= .inl ⟨rfl,by simpa using hm,rfl⟩
theorem qg0 (R:Rn) (d e:List Deed):runD R (d ++ e)=((runD R d).1 ++ (runD (runD R d).2 e).1,(runD (runD R d).2 e).2):=by
 suffices h:∀ (n:Nat) (e:List Deed),e.length=n→runD R (d ++ e)=((runD R d).1 ++ (runD (runD R d).2 e).1,(runD (runD R d).2 e).2) from h _ e rfl
 intro n
 induction n with
 | zero =>
  intro e he
  rw[List.length_eq_zero_iff.mp he,List.append_nil,qfs,List.append_nil]
 | succ n ih =>
  intro e he
  obtain⟨e',x,rfl⟩:∃ e' x,e=e' ++ [x]:=⟨e.dropLast,e.getLast (by intro z;rw[z]at he;cases he),(List.dropLast_concat_getLast _).symm⟩
  rw[← List.append_assoc,q34,ih e' (by simpa using he),q34,List.append_assoc]
end K07
end
section
namespace K07
open PySem L2
structure SW (R R':Rn):Prop where
 w:R'.works=R.works
 t:R'.trail=R.trail
 u:R'.up=R.up
theorem SW.refl (R:Rn):SW R R:=⟨rfl,rfl,rfl⟩
theorem q84 (R:Rn) (d:Int) (q:Rq):SW R (q0r R d q).2:=by
 unfold q0r
 split
 ·exact⟨rfl,rfl,rfl⟩
 ·exact SW.refl R
theorem qin (R:Rn) (d:Int) (q:Rq) (luck:Str):∃ R1,q1d R d q luck=(if luck= "ok" then some (q0r R d q).1 else none,R1)∧SW R R1:=by
 unfold q1d
 by_cases h:luck= "lost"
 ·exact⟨{ R with lost:=R.lost ++ [(d,q)] },by rw[if_pos h,if_neg (by rw[h];decide +kernel)],⟨rfl,rfl,rfl⟩⟩
 ·exact⟨_,by rw[if_neg h],q84 R d q⟩
theorem q9a {R:Rn} {n:Nat} {x:Str} {ss:List Stp} {s:Stp} (ok:RnOk R n) (hm:(x,ss) ∈ R.works) (hs:s ∈ ss) (q:Rq):(q.word= "do" → (q0r R s.d q).1= "did" ∨ (q0r R s.d q).1= "no")∧(q.word= "undo" → (q0r R s.d q).1= "undid"):=by
 have hd:=ok.sd x ss hm s hs
 have hi:s.d.toNat < R.desks.length:=by omega
 unfold q0r
 rw[List.getElem?_eq_getElem hi]
 generalize R.desks[s.d.toNat]=p
 obtain⟨T,F⟩:=p
 dsimp only
 unfold q21
 refine⟨fun h=> ?_,fun h=> ?_⟩
 ·rw[if_pos h]
  unfold doM
  split
  ·split
   ·exact .inr rfl
   ·exact .inl rfl
  ·dsimp only
   split
   ·exact .inl rfl
   ·exact .inr rfl
 ·rw[if_neg (by rw[h];decide +kernel)]
  rfl
structure Wr (R R':Rn) (x:Str) (e:En):Prop where
 w:R'.works=R.works
 u:R'.up=R.up
 t:R'.trail=fun y=>if y=x then R.trail x ++ [e] else R.trail y
theorem q6i {R R1:Rn} (s:SW R R1) (x:Str) (e:En):Wr R (q1x R1 x e) x e:=⟨s.w,s.u,by show (fun y=>if y=x then R1.trail x ++ [e] else R1.trail y)=_;rw[s.t]⟩
theorem att {R:Rn} {n:Nat} {x luck:Str} {ss:List Stp} {s:Stp} {u:Bool} {i:Int} (ok:RnOk R n) (hm:(x,ss) ∈ R.works) (hs:s ∈ ss) :
  (∃ R',q0w R x s u i luck=(none,R')∧¬ luck= "ok" ∧ SW R R')∨∃ y R',q0w R x s u i luck=(some (y,i),R')∧(u=false→y= "did" ∨ y= "no" ∨ (y= "unsure" ∧ ¬ luck= "ok"))∧(u=true→y= "undid")∧Wr R R' x (y,i):=by
 obtain⟨R1,e1,s1⟩:=qin R s.d (reqM x s (if u=true then "undo" else "do") i) luck
 have aw:=q9a ok hm hs (reqM x s (if u=true then "undo" else "do") i)
 unfold q0w
 rw[e1]
 by_cases h:luck= "ok"
 ·rw[if_pos h]
  refine .inr ⟨_,_,rfl,fun hu=> ?_,fun hu=> ?_,q6i s1 _ _⟩
  ·subst hu
   rcases aw.1 rfl with z | z
   ·exact .inl z
   ·exact .inr (.inl z)
  ·subst hu
   exact aw.2 rfl
 ·rw[if_neg h]
  cases u with
  | true=>exact .inl ⟨R1,rfl,h,s1⟩
  | false =>
   have e2:q15 R1 x false=(if R1.bound≤getI R1.tries x + 1 then some ("unsure" : Str) else none,{ R1 with tries:=putK R1.tries (Sum.inr x:Key) (.int (getI R1.tries x + 1)) }):=rfl
   have s2:SW R { R1 with tries:=putK R1.tries (Sum.inr x:Key) (.int (getI R1.tries x + 1)) }:=⟨s1.w,s1.t,s1.u⟩
   dsimp only
   rw[e2]
   by_cases hb:R1.bound≤getI R1.tries x + 1
   ·rw[if_pos hb]
    exact .inr ⟨"unsure",_,rfl,fun _=> .inr (.inr ⟨rfl,h⟩),(fun z=>by cases z),q6i s2 _ _⟩
   ·rw[if_neg hb]
    exact .inl ⟨_,rfl,h,s2⟩
theorem qfc {R:Rn} {n:Nat} {x luck:Str} {ss:List Stp} (ok:RnOk R n) (up:R.up=true) (hw:R.wk x=some ss) :
  ((nxOf ss.length (R.trail x)= .dn∨nxOf ss.length (R.trail x)= .ud)∧goM R x luck=(.str "ended",R))∨(∃ R',goM R x luck=(.non,R')∧¬ luck= "ok" ∧ SW R R') ∨
   ∃ e R',goM R x luck=(.en e,R')∧q8p e (nxOf ss.length (R.trail x))=true∧(luck= "ok" → ¬ e.1= "unsure")∧Wr R R' x e:=by
 have hm:(x,ss) ∈ R.works:=q2q hw
 unfold goM
 rw[up,if_neg (by decide),hw]
 dsimp only
 cases e:nxOf ss.length (R.trail x) with
 | dn=>exact .inl ⟨.inl rfl,rfl⟩
 | ud=>exact .inl ⟨.inr rfl,rfl⟩
 | dO i =>
  have hi:=ok.next hm (.inl e)
  have hl:i.toNat < ss.length:=by omega
  have es:ss[i.toNat]? = some ss[i.toNat]:=List.getElem?_eq_getElem hl
  dsimp only
  rw[es]
  dsimp only
  rcases att (luck:=luck) (u:=false) (i:=i) ok hm (List.getElem_mem hl) with ⟨R',h1,h2,h3⟩ | ⟨y,R',h1,h2,h3,h4⟩
  ·rw[h1];exact .inr (.inl ⟨R',rfl,h2,h3⟩)
  ·rw[h1]
   refine .inr (.inr ⟨(y,i),R',rfl,?_,fun hk z=> ?_,h4⟩)
   ·unfold q8p
    refine decide_eq_true ⟨?_,rfl⟩
    rcases h2 rfl with z | z | ⟨z,_⟩
    ·exact .inl z
    ·exact .inr (.inl z)
    ·exact .inr (.inr z)
   ·rcases h2 rfl with q | q | ⟨_,q⟩
    ·rw[q]at z;exact absurd z (show ¬ (("did" : Str)= "unsure") by decide +kernel)
    ·rw[q]at z;exact absurd z (show ¬ (("no" : Str)= "unsure") by decide +kernel)
    ·exact q hk
 | un i =>
  have hi:=ok.next hm (.inr e)
  have hl:i.toNat < ss.length:=by omega
  have es:ss[i.toNat]? = some ss[i.toNat]:=List.getElem?_eq_getElem hl
  dsimp only
  rw[es]
  dsimp only
  rcases att (luck:=luck) (u:=true) (i:=i) ok hm (List.getElem_mem hl) with ⟨R',h1,h2,h3⟩ | ⟨y,R',h1,h2,h3,h4⟩
  ·rw[h1];exact .inr (.inl ⟨R',rfl,h2,h3⟩)
  ·rw[h1]
   have ey:=h3 rfl
   refine .inr (.inr ⟨(y,i),R',rfl,?_,fun hk z=> ?_,h4⟩)
   ·unfold q8p
    exact decide_eq_true ⟨ey,rfl⟩
   ·rw[ey]at z;exact absurd z (show ¬ (("undid" : Str)= "unsure") by decide +kernel)
def MR (R:Rn):Prop:=∀ x ss,(x,ss) ∈ R.works→Rel ss.length (R.trail x) (nxOf ss.length (R.trail x))
theorem MR.same {R R':Rn} (h:MR R) (s:SW R R'):MR R':=by unfold MR;rw[s.w,s.t];exact h
theorem MR.wr {R R':Rn} {n:Nat} {x:Str} {e:En} {ss:List Stp} (h:MR R) (ok:RnOk R n) (hm:(x,ss) ∈ R.works) (hs:q8p e (nxOf ss.length (R.trail x))=true) (w:Wr R R' x e):MR R':=by
 intro y tt hy
 rw[w.w]at hy
 rw[w.t]
 dsimp only
 by_cases ey:y=x
 ·subst ey
  obtain rfl:ss=tt:=q42 ok hm hy
  rw[if_pos rfl,q8q]
  exact(h y ss hm).step hs
 ·rw[if_neg ey]
  exact h y tt hy
theorem q6t {R:Rn} {x:Str} {ss:List Stp}:(q1j R (.start x ss)).2=R∨(R.wk x=none∧(q1j R (.start x ss)).2={ R with works:=R.works ++ [(x,ss)],trail:=fun y=>if y=x then [] else R.trail y }):=by
 show (q2m R x ss).2=R∨_∧(q2m R x ss).2=_
 unfold q2m
 split
 ·cases h:R.wk x with
  | some _=>exact .inl rfl
  | none=>exact .inr ⟨rfl,rfl⟩
 ·exact .inl rfl
theorem MR.deed {R:Rn} {n:Nat} (h:MR R) (ok:RnOk R n) (d:Deed):MR (q1j R d).2:=by
 cases d with
 | start x ss =>
  rcases q6t (R:=R) (x:=x) (ss:=ss) with e | ⟨hn,e⟩
  ·rw[e];exact h
  ·rw[e]
   intro y tt hy
   dsimp only at hy ⊢
   rw[List.mem_append]at hy
   by_cases ey:y=x
   ·rw[if_pos ey]
    exact qj9 (by omega)
   ·rw[if_neg ey]
    rcases hy with z | z
    ·exact h y tt z
    ·simp at z;exact absurd z.1 ey
 | go x luck =>
  show MR (goM R x luck).2
  by_cases up:R.up=true
  ·cases hw:R.wk x with
   | none=>unfold goM;rw[up,if_neg (by decide),hw];exact h
   | some ss =>
    rcases qfc (luck:=luck) ok up hw with ⟨_,e⟩ | ⟨R',e,_,s⟩ | ⟨en,R',e,hs,_,w⟩
    ·rw[e];exact h
    ·rw[e];exact h.same s
    ·rw[e];exact h.wr ok (q2q hw) hs w
  ·have:R.up=false:=by cases hh:R.up with | true=>exact absurd hh up | false=>rfl
   unfold goM
   rw[if_pos this]
   exact h
 | late i =>
  show MR (q2l R i).2
  unfold q2l
  split
  ·exact h
  ·split
   ·exact h.same (q84 R _ _)
   ·exact h
 | fill d x m =>
  show MR (q28 R d x m).2
  unfold q28
  split
  ·split
   ·exact h.same ⟨rfl,rfl,rfl⟩
   ·exact h
  ·exact h
 | stop =>
  show MR (if R.up=true then (An.bl true,({ R with up:=false,tries:=[] }:Rn)) else (.bl false,R)).2
  split
  ·exact h
  ·exact h
 | wake =>
  show MR (if R.up=true then (An.bl false,R) else (.bl true,{ R with up:=true })).2
  split
  ·exact h
  ·exact h
theorem MR.new (Ts:List Tb) (b:Int):MR (newR Ts b):=fun x ss h=>by simp[newR]at h
theorem qad {α:Type} [DecidableEq α]:∀ {xs ys:List α},xs.Nodup→(∀ x ∈ xs,x ∈ ys)→xs.length≤ys.length
 | [],_,_,_=>Nat.zero_le _
 | x :: xs,ys,nd,h=>by
  rw[List.nodup_cons]at nd
  have hx:=h x (.head _)
  have:=qad (xs:=xs) (ys:=ys.erase x) nd.2 fun y hy=>(List.mem_erase_of_ne (fun z=>nd.1 (by rw[← z];exact hy))).mpr (h y (.tail _ hy))
  rw[List.length_erase_of_mem hx]at this
  have:0 < ys.length:=List.length_pos_of_mem hx
  rw[List.length_cons]
  omega
def qf3 (ws:List (Str×List Stp)):List Key→Option Stp
 | [Sum.inr x,Sum.inl n]=>(wkF ws x).bind fun ss=>ss[n.toNat]?
 | _=>none
def tkv (ws:List (Str×List Stp)) (x:Str) (kv:List Key×V):Int:=if kv.2= .str "did" then (match qf3 ws kv.1 with
  | some s=>if s.x=x then s.n else 0
  | none=>0) else 0
def q2v (ws:List (Str×List Stp)) (F:Fb) (x:Str):Int:=(F.map (tkv ws x)).sum
theorem q4x (ws:List (Str×List Stp)) (F:Fb) (kv:List Key×V) (x:Str):q2v ws (F ++ [kv]) x=q2v ws F x + tkv ws x kv:=by
 unfold q2v
 rw[List.map_append,List.sum_append]
 simp
theorem q3m (ws:List (Str×List Stp)) (F:Fb) (kv:List Key×V) (x:Str):q2v ws (kv :: F) x=tkv ws x kv + q2v ws F x:=by
 unfold q2v
 rw[List.map_cons,List.sum_cons]
theorem qe4 {κ:Type} [DecidableEq κ] {F:List (κ×V)} {k:κ}:(F.any fun kv=>decide (kv.1=k))=(valV F k).isSome:=by
 unfold valV
 rw[Option.isSome_map]
 induction F with
 | nil=>rfl
 | cons a r ih =>
  rw[List.any_cons,List.find?_cons,ih]
  cases decide (a.1=k) <;> simp
theorem q4m {κ:Type} [DecidableEq κ] {F:List (κ×V)} {k:κ} (v:V) (h:valV F k=none):putK F k v=F ++ [(k,v)]:=by
 unfold putK
 rw[qe4,h]
 rfl
theorem q5p {κ:Type} [DecidableEq κ] {F:List (κ×V)} {k:κ} {w:V} (v:V) (h:valV F k=some w):putK F k v=F.map fun kv=>if kv.1=k then (kv.1,v) else kv:=by
 unfold putK
 rw[qe4,h]
 rfl
theorem qg1 {κ:Type} [DecidableEq κ] (F:List (κ×V)) (k:κ) (v:V):(F.map fun kv=>if kv.1=k then (kv.1,v) else kv).map (·.1)=F.map (·.1):=by
 rw[List.map_map]
 refine List.map_congr_left fun kv _=> ?_
 show (if kv.1=k then (kv.1,v) else kv).1=kv.1
 split <;> rfl
theorem ql7 {κ:Type} [DecidableEq κ] {F:List (κ×V)} {k:κ} (v:V) (h:k ∉ F.map (·.1)):(F.map fun kv=>if kv.1=k then (kv.1,v) else kv)=F:=by
 refine(List.map_congr_left fun kv hv=> ?_).trans (List.map_id _)
 rw[if_neg fun z=>h (List.mem_map.mpr ⟨kv,hv,z⟩)]
 rfl
theorem q8l (ws:List (Str×List Stp)) (x:Str):∀ {F:Fb} {k:List Key} {w:V} (v:V),(F.map (·.1)).Nodup→valV F k=some w→q2v ws (F.map fun kv=>if kv.1=k then (kv.1,v) else kv) x + tkv ws x (k,w)=q2v ws F x + tkv ws x (k,v)
 | [],k,w,v,_,h=>by cases h
 | (k',w') :: r,k,w,v,nd,h=>by
  rw[List.map_cons,List.nodup_cons]at nd
  by_cases e:k'=k
  ·subst e
   have e2:w'=w:=by
    unfold valV at h
    rw[List.find?_cons,decide_eq_true rfl]at h
    exact Option.some.inj h
   subst e2
   rw[List.map_cons,ql7 v nd.1,if_pos rfl,q3m,q3m]
   dsimp only
   omega
  ·have h':valV r k=some w:=by
    unfold valV at h ⊢
    rw[List.find?_cons,decide_eq_false e]at h
    exact h
   have ih:=q8l ws x v nd.2 h'
   rw[List.map_cons,if_neg e]
   rw[q3m,q3m]
   omega
theorem q3i (T:Tb) (x y:Str) (i:Int):getI (putK T (Sum.inr x:Key) (.int i)) y=if y=x then i else getI T y:=by
 unfold getI
 rw[q1w]
 by_cases e:y=x
 ·rw[if_pos e,if_pos (by rw[e])]
 ·rw[if_neg e,if_neg (fun z=>e (by injection z))]
theorem qgd {rows:List (Str×Int)} {x:Str} {v:V} (h:valV (kvOf rows) (Sum.inr x:Key)=some v):∃ i,(x,i) ∈ rows∧v= .int i:=by
 unfold valV kvOf at h
 rw[List.find?_map]at h
 cases e:rows.find? ((fun kv:Key×V=>decide (kv.1=(Sum.inr x:Key))) ∘ fun q:Str×Int=>((Sum.inr q.1:Key),V.int q.2)) with
 | none=>rw[e]at h;cases h
 | some q =>
  rw[e]at h
  cases h
  have h1:=List.find?_some e
  have h2:=List.mem_of_find?_eq_some e
  have e3:q.1=x:=by
   have:=of_decide_eq_true h1
   injection this
  obtain⟨y,i⟩:=q
  dsimp only at e3
  subst e3
  exact⟨i,h2,rfl⟩
theorem TbW.nn {c:Int} {T:Tb} (h:TbW c T) (x:Str):0≤getI T x:=by
 obtain⟨rows,rfl,hr,_⟩:=h
 unfold getI
 cases e:valV (kvOf rows) (Sum.inr x:Key) with
 | none=>exact Int.le_refl 0
 | some v =>
  obtain⟨i,hi,rfl⟩:=qgd e
  exact(hr _ hi).2
structure CI (c:Int) (L:List Tb) (R:Rn):Prop where
 tb:∀ (i:Nat) T F,R.desks[i]? = some (T,F)→TbW c T
 ks:∀ (i:Nat) T F,R.desks[i]? = some (T,F)→∀ kv ∈ F,∃ x ss,(x,ss) ∈ R.works∧∃ (j:Nat) (s:Stp) (y:Str),ss[j]? = some s∧s.d=i∧kv=(kk x j,.str y)∧(y= "did" ∨ y= "no" ∨ y= "undid")
 nk:∀ (i:Nat) T F,R.desks[i]? = some (T,F)→(F.map (·.1)).Nodup
 ls:∀ p ∈ R.lost,∃ x ss,(x,ss) ∈ R.works∧∃ (j:Nat) (s:Stp) (u:Bool),ss[j]? = some s∧p=(s.d,reqM x s (if u=true then "undo" else "do") j)
 cs:∀ (i:Nat) T F l,R.desks[i]? = some (T,F)→L[i]? = some l→∀ x,getI T x + q2v R.works F x=getI l x
 sw:∀ x ss,(x,ss) ∈ R.works→∀ s ∈ ss,s.x ∈ q1s c∧0≤s.n
 len:L.length=R.desks.length
theorem CI.same {c:Int} {L:List Tb} {R R':Rn} (h:CI c L R) (hd:R'.desks=R.desks) (hw:R'.works=R.works) (hl:R'.lost=R.lost):CI c L R':=by
 refine⟨?_,?_,?_,?_,?_,?_,?_⟩
 ·rw[hd];exact h.tb
 ·rw[hd,hw];exact h.ks
 ·rw[hd];exact h.nk
 ·rw[hl,hw];exact h.ls
 ·rw[hd,hw];exact h.cs
 ·rw[hw];exact h.sw
 ·rw[hd];exact h.len
theorem CI.set {c:Int} {L L':List Tb} {R:Rn} {i:Nat} {T T':Tb} {F F':Fb} (h:CI c L R) (e:R.desks[i]? = some (T,F)) (hL:L'.length=L.length) (oth:∀ j:Nat,j ≠ i→L'[j]? = L[j]?) (tb:TbW c T') (nk:(F'.map (·.1)).Nodup)
  (ks:∀ kv ∈ F',kv ∈ F∨∃ x ss,(x,ss) ∈ R.works∧∃ (j:Nat) (s:Stp) (y:Str),ss[j]? = some s∧s.d=i∧kv=(kk x j,.str y)∧(y= "did" ∨ y= "no" ∨ y= "undid"))
  (cs:∀ l,L'[i]? = some l→∀ x,getI T' x + q2v R.works F' x=getI l x):CI c L' (setD R i (T',F')):=by
 have hi:i < R.desks.length:=(List.getElem?_eq_some_iff.mp e).1
 have e1:∀ (j:Nat) T2 F2,(setD R i (T',F')).desks[j]? = some (T2,F2)→(j=i∧T2=T'∧F2=F')∨(j ≠ i∧R.desks[j]? = some (T2,F2)):=fun j T2 F2 z=>by
  have z:(R.desks.set i (T',F'))[j]? = some (T2,F2):=z
  rw[List.getElem?_set]at z
  by_cases e:i=j
  ·rw[if_pos e,if_pos hi]at z
   cases z
   exact .inl ⟨e.symm,rfl,rfl⟩
  ·rw[if_neg e]at z
   exact .inr ⟨fun y=>e y.symm,z⟩
 refine⟨fun j T2 F2 z=> ?_,fun j T2 F2 z kv hv=> ?_,fun j T2 F2 z=> ?_,h.ls,fun j T2 F2 l z zl x=> ?_,h.sw,?_⟩
 ·rcases e1 j T2 F2 z with ⟨rfl,rfl,rfl⟩ | ⟨_,z'⟩
  ·exact tb
  ·exact h.tb j T2 F2 z'
 ·rcases e1 j T2 F2 z with ⟨rfl,rfl,rfl⟩ | ⟨_,z'⟩
  ·rcases ks kv hv with q | q
   ·exact h.ks j T F e kv q
   ·exact q
  ·exact h.ks j T2 F2 z' kv hv
 ·rcases e1 j T2 F2 z with ⟨rfl,rfl,rfl⟩ | ⟨_,z'⟩
  ·exact nk
  ·exact h.nk j T2 F2 z'
 ·rcases e1 j T2 F2 z with ⟨rfl,rfl,rfl⟩ | ⟨nj,z'⟩
  ·exact cs l zl x
  ·rw[oth j nj]at zl
   exact h.cs j T2 F2 l z' zl x
 ·show _=(R.desks.set i (T',F')).length
  rw[List.length_set,hL]
  exact h.len
theorem qh0 {R:Rn} {n:Nat} {x:Str} {ss:List Stp} (ok:RnOk R n) (h:(x,ss) ∈ R.works):R.wk x=some ss:=by
 cases e:R.wk x with
 | none=>exact absurd rfl (q2x e _ h)
 | some tt=>rw[q42 ok (q2q e) h]
theorem qex {R:Rn} {n:Nat} {x:Str} {ss:List Stp} {j:Nat} {s:Stp} (ok:RnOk R n) (hm:(x,ss) ∈ R.works) (hs:ss[j]? = some s):qf3 R.works (kk x j)=some s:=by
 have:=qh0 ok hm
 unfold Rn.wk at this
 show (wkF R.works x).bind (fun ss=>ss[((j:Nat):Int).toNat]?)=some s
 rw[this,Int.toNat_natCast]
 exact hs
theorem qi1 {κ:Type} [DecidableEq κ] {F:List (κ×V)} {k:κ} {v:V} {kv:κ×V} (h:kv ∈ F.map fun kv=>if kv.1=k then (kv.1,v) else kv):kv ∈ F∨kv=(k,v):=by
 obtain⟨q,h1,rfl⟩:=List.mem_map.mp h
 by_cases e:q.1=k
 ·rw[if_pos e,e];exact .inr rfl
 ·rw[if_neg e];exact .inl h1
theorem CI.arrive {c:Int} {L:List Tb} {R:Rn} {n:Nat} {x:Str} {ss:List Stp} {j:Nat} {s:Stp} (h:CI c L R) (ok:RnOk R n) (hm:(x,ss) ∈ R.works) (hs:ss[j]? = some s) (u:Bool):CI c L (q0r R s.d (reqM x s (if u=true then "undo" else "do") j)).2:=by
 have hd:=ok.sd x ss hm s (List.mem_of_getElem? hs)
 have hi:s.d.toNat < R.desks.length:=by omega
 have e:R.desks[s.d.toNat]? = some (R.desks[s.d.toNat].1,R.desks[s.d.toNat].2):=List.getElem?_eq_getElem hi
 generalize R.desks[s.d.toNat].1=T at e
 generalize R.desks[s.d.toNat].2=F at e
 have ea:∀ q,q0r R s.d q=((q21 T F q).1,setD R s.d.toNat (q21 T F q).2):=fun q=>by unfold q0r;rw[e]
 rw[ea]
 have hst:=qex ok hm hs
 obtain⟨hx,hn⟩:=h.sw x ss hm s (List.mem_of_getElem? hs)
 have W:=h.tb _ T F e
 have nk:=h.nk _ T F e
 have hcs:=h.cs s.d.toNat T F
 have hdi:s.d=((s.d.toNat:Nat):Int):=by omega
 have tv:∀ (y:Str) (z:Str),tkv R.works z (kk x j,.str y)=if y= "did" then (if s.x=z then s.n else 0) else 0:=fun y z=>by
  unfold tkv
  dsimp only
  rw[hst]
  by_cases q:y= "did"
  ·rw[if_pos q,if_pos (by rw[q])]
  ·rw[if_neg q,if_neg (fun w=>q (by injection w))]
 have nsub:¬ (("no" : Str)= "did"):=by decide +kernel
 have usub:¬ (("undid" : Str)= "did"):=by decide +kernel
 have newkey:∀ (y:Str),(y= "did" ∨ y= "no" ∨ y= "undid")→∀ kv,kv=(kk x j,V.str y)→∃ x ss,(x,ss) ∈ R.works∧∃ (j:Nat) (s':Stp) (y:Str),ss[j]? = some s'∧s'.d=s.d.toNat∧kv=(kk x j,.str y)∧(y= "did" ∨ y= "no" ∨ y= "undid"):=fun y hy kv q=>⟨x,ss,hm,j,s,y,hs,hdi,q,hy⟩
 cases u with
 | false =>
  rw[show q21 T F (reqM x s (if false=true then "undo" else "do") j)=doM T F (kk x j) s.x s.n from rfl]
  cases hv:valV F (kk x j) with
  | none =>
   have nk':∀ y:Str,((putK F (kk x j) (.str y)).map (·.1)).Nodup:=fun y=>qcu _ nk hv
   have ks':∀ y:Str,(y= "did" ∨ y= "no" ∨ y= "undid")→∀ kv ∈ putK F (kk x j) (.str y),kv ∈ F∨∃ x ss,(x,ss) ∈ R.works∧∃ (j:Nat) (s':Stp) (y:Str),ss[j]? = some s'∧s'.d=s.d.toNat∧kv=(kk x j,.str y)∧(y= "did" ∨ y= "no" ∨ y= "undid"):=fun y hy kv hkv=>by
    rw[q4m _ hv,List.mem_append]at hkv
    rcases hkv with q | q
    ·exact .inl q
    ·simp at q
     exact .inr (newkey y hy kv q)
   unfold doM
   rw[hv]
   dsimp only
   by_cases z:getI T s.x < s.n
   ·rw[if_pos z]
    refine h.set e rfl (fun _ _=>rfl) W (nk' _) (ks' _ (.inr (.inl rfl))) fun l hl y=> ?_
    rw[q4m _ hv,q4x,tv,if_neg nsub,Int.add_zero]
    exact hcs l e hl y
   ·rw[if_neg z]
    refine h.set e rfl (fun _ _=>rfl) (W.put hx (by omega)) (nk' _) (ks' _ (.inl rfl)) fun l hl y=> ?_
    rw[q4m _ hv,q4x,tv,if_pos rfl,q3i,← hcs l e hl y]
    by_cases q:y=s.x
    ·rw[if_pos q,if_pos q.symm,q];omega
    ·rw[if_neg q,if_neg (fun w=>q w.symm)];omega
  | some v =>
   unfold doM
   rw[hv]
   dsimp only
   exact h.set e rfl (fun _ _=>rfl) W nk (fun kv hkv=> .inl hkv) fun l hl y=>hcs l e hl y
 | true =>
  rw[show q21 T F (reqM x s (if true=true then "undo" else "do") j)=q3z T F (kk x j) s.x s.n from rfl]
  unfold q3z
  dsimp only
  cases hv:valV F (kk x j) with
  | none =>
   rw[if_neg (by simp)]
   refine h.set e rfl (fun _ _=>rfl) W (qcu _ nk hv) (fun kv hkv=> ?_) fun l hl y=> ?_
   ·rw[q4m _ hv,List.mem_append]at hkv
    rcases hkv with q | q
    ·exact .inl q
    ·simp at q
     exact .inr (newkey _ (.inr (.inr rfl)) kv q)
   ·rw[q4m _ hv,q4x,tv,if_neg usub,Int.add_zero]
    exact hcs l e hl y
  | some v =>
   obtain⟨y0,rfl,hy0⟩:∃ y0:Str,v= .str y0∧(y0= "did" ∨ y0= "no" ∨ y0= "undid"):=by
    rcases (ok.ok T F (List.mem_of_getElem? e)).f _ _ hv with q | q | q
    ·exact⟨_,q,.inl rfl⟩
    ·exact⟨_,q,.inr (.inl rfl)⟩
    ·exact⟨_,q,.inr (.inr rfl)⟩
   have told:=fun y=>q8l R.works y (.str "undid") nk hv
   have nk2:((putK F (kk x j) (.str "undid")).map (·.1)).Nodup:=by rw[q5p _ hv,qg1];exact nk
   have ks2:∀ kv ∈ putK F (kk x j) (.str "undid"),kv ∈ F∨∃ x ss,(x,ss) ∈ R.works∧∃ (j:Nat) (s':Stp) (y:Str),ss[j]? = some s'∧s'.d=s.d.toNat∧kv=(kk x j,.str y)∧(y= "did" ∨ y= "no" ∨ y= "undid"):=fun kv hkv=>by
    rw[q5p _ hv]at hkv
    rcases qi1 hkv with q | q
    ·exact .inl q
    ·exact .inr (newkey _ (.inr (.inr rfl)) kv q)
   by_cases q:y0= "did"
   ·subst q
    rw[if_pos rfl]
    have g0:=W.nn s.x
    refine h.set e rfl (fun _ _=>rfl) (W.put hx (by omega)) nk2 ks2 fun l hl y=> ?_
    have t1:=told y
    rw[tv,tv,if_pos rfl,if_neg usub]at t1
    rw[q5p _ hv,q3i,← hcs l e hl y]
    by_cases q:y=s.x
    ·rw[if_pos q.symm]at t1;rw[if_pos q];rw[q]at t1 ⊢;omega
    ·rw[if_neg (fun w=>q w.symm)]at t1;rw[if_neg q];omega
   ·rw[if_neg (fun w=>q (by injection w with w;injection w))]
    refine h.set e rfl (fun _ _=>rfl) W nk2 ks2 fun l hl y=> ?_
    have t1:=told y
    rw[tv,tv,if_neg q,if_neg usub]at t1
    rw[q5p _ hv,← hcs l e hl y]
    omega
theorem CI.send {c:Int} {L:List Tb} {R:Rn} {n:Nat} {x luck:Str} {ss:List Stp} {j:Nat} {s:Stp} (h:CI c L R) (ok:RnOk R n) (hm:(x,ss) ∈ R.works) (hs:ss[j]? = some s) (u:Bool):CI c L (q1d R s.d (reqM x s (if u=true then "undo" else "do") j) luck).2:=by
 unfold q1d
 split
 ·refine⟨h.tb,h.ks,h.nk,fun p hp=> ?_,h.cs,h.sw,h.len⟩
  have hp:p ∈ R.lost ++ [(s.d,reqM x s (if u=true then "undo" else "do") j)]:=hp
  rw[List.mem_append]at hp
  rcases hp with z | z
  ·exact h.ls p z
  ·simp only[List.mem_singleton]at z
   exact⟨x,ss,hm,j,s,u,hs,z⟩
 ·exact h.arrive ok hm hs u
theorem CI.attempt {c:Int} {L:List Tb} {R:Rn} {n:Nat} {x luck:Str} {ss:List Stp} {j:Nat} {s:Stp} (h:CI c L R) (ok:RnOk R n) (hm:(x,ss) ∈ R.works) (hs:ss[j]? = some s) (u:Bool):CI c L (q0w R x s u j luck).2:=by
 have h1:=h.send (luck:=luck) ok hm hs u
 unfold q0w
 split
 ·rename_i w R1 e
  rw[e]at h1
  exact h1.same rfl rfl rfl
 ·rename_i R1 e
  rw[e]at h1
  have h2:CI c L (q15 R1 x u).2:=by
   unfold q15
   split
   ·exact h1
   ·exact h1.same rfl rfl rfl
  split
  ·rename_i w R2 e2
   rw[e2]at h2
   exact h2.same rfl rfl rfl
  ·rename_i R2 e2
   rw[e2]at h2
   exact h2
def qjc (L:List Tb):Deed→List Tb
 | .fill d x n=>if 0≤d∧d < L.length then L.set d.toNat (putK ((L[d.toNat]?).getD []) (Sum.inr x:Key) (.int (getI ((L[d.toNat]?).getD []) x + n))) else L
 | _=>L
theorem qhw {ws:List (Str×List Stp)} {z x:Str} {ss tt:List Stp} (h:wkF ws z=some tt):wkF (ws ++ [(x,ss)]) z=some tt:=by
 unfold wkF at h ⊢
 rw[List.find?_append]
 cases e:ws.find? fun w=>decide (w.1=z) with
 | none=>rw[e]at h;cases h
 | some w=>rw[e]at h;exact h
theorem CI.deed {c:Int} {L:List Tb} {R:Rn} {n:Nat} (h:CI c L R) (ok:RnOk R n) (d:Deed) (hd:q5m c d):CI c (qjc L d) (q1j R d).2:=by
 cases d with
 | start x ss =>
  rcases q6t (R:=R) (x:=x) (ss:=ss) with e | ⟨hw,e⟩
  ·rw[e];exact h
  ·rw[e]
   have up:∀ z tt,(z,tt) ∈ R.works→(z,tt) ∈ R.works ++ [(x,ss)]:=fun z tt hz=>List.mem_append_left _ hz
   refine⟨h.tb,fun i T F z kv hv=> ?_,h.nk,fun p hp=> ?_,fun i T F l z zl y=> ?_,fun z tt hz s hs=> ?_,h.len⟩
   ·obtain⟨z',tt,h1,h2⟩:=h.ks i T F z kv hv
    exact⟨z',tt,up _ _ h1,h2⟩
   ·obtain⟨z',tt,h1,h2⟩:=h.ls p hp
    exact⟨z',tt,up _ _ h1,h2⟩
   ·have et:q2v (R.works ++ [(x,ss)]) F y=q2v R.works F y:=by
     unfold q2v
     refine congrArg List.sum (List.map_congr_left fun kv hv=> ?_)
     obtain⟨z',tt,h1,j,s,y',hj,_,rfl,_⟩:=h.ks i T F z kv hv
     have hk:=qh0 ok h1
     unfold Rn.wk at hk
     have q:qf3 (R.works ++ [(x,ss)]) (kk z' j)=qf3 R.works (kk z' j):=by
      show (wkF (R.works ++ [(x,ss)]) z').bind _=(wkF R.works z').bind _
      rw[qhw hk,hk]
     unfold tkv
     dsimp only
     rw[q]
    show getI T y + q2v (R.works ++ [(x,ss)]) F y=getI l y
    rw[et]
    exact h.cs i T F l z zl y
   ·have hz:(z,tt) ∈ R.works ++ [(x,ss)]:=hz
    rw[List.mem_append]at hz
    rcases hz with q | q
    ·exact h.sw z tt q s hs
    ·simp at q
     obtain⟨rfl,rfl⟩:=q
     exact hd.2.2.2 s hs
 | go x luck =>
  show CI c L (goM R x luck).2
  unfold goM
  split
  ·exact h
  ·split
   ·exact h
   ·rename_i ss hw
    have hm:(x,ss) ∈ R.works:=q2q hw
    split
    ·rename_i i e
     have hi:=ok.next hm (.inl e)
     split
     ·rename_i s hs
      have:=h.attempt (luck:=luck) ok hm hs false
      rw[show ((i.toNat:Nat):Int)=i by omega]at this
      exact this
     ·exact h
    ·rename_i i e
     have hi:=ok.next hm (.inr e)
     split
     ·rename_i s hs
      have:=h.attempt (luck:=luck) ok hm hs true
      rw[show ((i.toNat:Nat):Int)=i by omega]at this
      exact this
     ·exact h
    ·exact h
 | late i =>
  show CI c L (q2l R i).2
  unfold q2l
  split
  ·exact h
  ·split
   ·rename_i d q e
    obtain⟨x,ss,hm,j,s,u,hs,ep⟩:=h.ls _ (List.mem_of_getElem? e)
    cases ep
    exact h.arrive ok hm hs u
   ·exact h
 | fill d x m =>
  obtain⟨hx,hm⟩:=hd
  show CI c (if 0≤d∧d < L.length then _ else L) (q28 R d x m).2
  have hl:=h.len
  unfold q28 inD
  by_cases z:0≤d∧d < L.length
  ·rw[if_pos z,decide_eq_true z.1,decide_eq_true (show d < R.desks.length by omega),Bool.true_and,if_pos rfl]
   have hi:d.toNat < R.desks.length:=by omega
   have hiL:d.toNat < L.length:=by omega
   have e:R.desks[d.toNat]? = some (R.desks[d.toNat].1,R.desks[d.toNat].2):=List.getElem?_eq_getElem hi
   have eL:L[d.toNat]? = some L[d.toNat]:=List.getElem?_eq_getElem hiL
   generalize R.desks[d.toNat].1=T at e
   generalize R.desks[d.toNat].2=F at e
   rw[e,eL]
   dsimp only
   have g0:=(h.tb _ T F e).nn x
   refine h.set e List.length_set (fun j hj=>List.getElem?_set_ne (fun w=>hj w.symm)) ((h.tb _ T F e).put hx (by omega)) (h.nk _ T F e) (fun kv hv=> .inl hv) fun l hl' y=> ?_
   rw[List.getElem?_set_self hiL]at hl'
   cases hl'
   rw[q3i]
   show _=getI (putK L[d.toNat] (Sum.inr x:Key) (.int (getI L[d.toNat] x + m))) y
   rw[q3i]
   have h1:=h.cs _ T F _ e eL y
   have h2:=h.cs _ T F _ e eL x
   by_cases q:y=x
   ·rw[if_pos q,if_pos q];rw[q]at h1 ⊢;omega
   ·rw[if_neg q,if_neg q];exact h1
  ·rw[if_neg z,if_neg (by simp only[Bool.and_eq_true,decide_eq_true_eq];omega)]
   exact h
 | stop =>
  show CI c L (if R.up=true then (An.bl true,({ R with up:=false,tries:=[] }:Rn)) else (.bl false,R)).2
  split
  ·exact h.same rfl rfl rfl
  ·exact h
 | wake =>
  show CI c L (if R.up=true then (An.bl false,R) else (.bl true,{ R with up:=true })).2
  split
  ·exact h
  ·exact h.same rfl rfl rfl
theorem CI.new {c:Int} {Ts:List Tb} (b:Int) (h:∀ T ∈ Ts,TbW c T):CI c Ts (newR Ts b):=by
 have e1:∀ (i:Nat) T F,(newR Ts b).desks[i]? = some (T,F)→Ts[i]? = some T∧F=[]:=fun i T F z=>by
  simp only[newR,List.getElem?_map]at z
  cases e:Ts[i]? with
  | none=>rw[e]at z;cases z
  | some T'=>rw[e]at z;cases z;exact⟨rfl,rfl⟩
 refine⟨fun i T F z=>h T (List.mem_of_getElem? (e1 i T F z).1),fun i T F z kv hv=> ?_,fun i T F z=> ?_,fun p hp=>by simp[newR]at hp,fun i T F l z zl x=> ?_,fun x ss hm=>by simp[newR]at hm,by simp[newR]⟩
 ·rw[(e1 i T F z).2]at hv;cases hv
 ·rw[(e1 i T F z).2];exact List.nodup_nil
 ·obtain⟨q1,rfl⟩:=e1 i T F z
  rw[q1]at zl
  cases zl
  exact Int.add_zero _
theorem qlp {rows:List (Str×Int)} (h:(rows.map (·.1)).Nodup):((kvOf rows).map (·.1)).Nodup:=by
 have e:(kvOf rows).map (·.1)=(rows.map (·.1)).map (Sum.inr:Str→Key):=by unfold kvOf;rw[List.map_map,List.map_map];rfl
 rw[e]
 exact List.Pairwise.map (Sum.inr:Str→Key) (fun a b z e=>z (Sum.inr.inj e)) h
theorem qc6 {rows:List (Str×Int)} {x:Str} {i:Int} (nd:(rows.map (·.1)).Nodup) (h:(x,i) ∈ rows):valV (kvOf rows) (Sum.inr x:Key)=some (.int i):=by
 unfold valV
 rw[q2f (qlp nd) (List.mem_map.mpr ⟨(x,i),h,rfl⟩)]
 rfl
theorem q9v {rows:List (Str×Int)} {x:Str} {i:Int} (nd:(rows.map (·.1)).Nodup) (h:(x,i) ∈ rows):getI (kvOf rows) x=i:=by
 unfold getI
 rw[qc6 nd h]
theorem qfp {rows:List (Str×Int)} {x:Str} (nd:(rows.map (·.1)).Nodup) (h:x ∈ rows.map (·.1)):valV (kvOf rows) (Sum.inr x:Key)=some (.int (getI (kvOf rows) x)):=by
 obtain⟨⟨y,i⟩,hm,rfl⟩:=List.mem_map.mp h
 rw[q9v nd hm]
 exact qc6 nd hm
theorem qd2 {rows:List (Str×Int)} {x:Str} (h:getI (kvOf rows) x ≠ 0):(x,getI (kvOf rows) x) ∈ rows:=by
 unfold getI at h ⊢
 cases e:valV (kvOf rows) (Sum.inr x:Key) with
 | none=>rw[e]at h;exact absurd rfl h
 | some v =>
  obtain⟨i,hi,rfl⟩:=qgd e
  exact hi
theorem qh1 {c:Int} {rows:List (Str×Int)} (h:∀ q ∈ rows,q.1 ∈ q1s c) (nd:(rows.map (·.1)).Nodup):rows.length≤6:=by
 have:=qad (ys:=q1s c) nd fun x hx=>by
  obtain⟨q,hq,rfl⟩:=List.mem_map.mp hx
  exact h q hq
 rw[List.length_map]at this
 unfold q1s at this
 rw[List.length_map,List.length_range]at this
 exact this
theorem q9x {c:Int} {p:Int→Prop}:∀ {Ds:List Tb},(∀ T ∈ Ds,TbG c p T)→∃ rowss:List (List (Str×Int)),Ds=rowss.map kvOf∧∀ rows ∈ rowss,(∀ q ∈ rows,q.1 ∈ q1s c∧p q.2)∧(rows.map (·.1)).Nodup∧rows.length < 64
 | [],_=>⟨[],rfl,by simp⟩
 | T :: Ds,h=>by
  obtain⟨rows,e,hr,nd⟩:=h T (List.Mem.head _)
  obtain⟨rs,e2,h2⟩:=q9x (Ds:=Ds) fun T' hT=>h T' (List.Mem.tail _ hT)
  have l6:=qh1 (fun q hq=>(hr q hq).1) nd
  refine⟨rows :: rs,by rw[e,e2];rfl,fun r hr'=> ?_⟩
  rcases List.mem_cons.mp hr' with z | z
  ·rw[z];exact⟨hr,nd,by omega⟩
  ·exact h2 r z
theorem qed {rows hr rows':List (Str×Int)} {ss:List Str} (nd:(rows.map (·.1)).Nodup) (nh:(hr.map (·.1)).Nodup) (pos:∀ q ∈ rows,0≤q.2) (e:∀ x,getI (kvOf hr) x=getI (kvOf rows) x) (pm:rows'.Perm rows) (lt:q35 rows') (pm2:ss.Perm (hr.map (·.1))) (st:ss.Pairwise fun a b=>ltS a b=true) :
  q5c rows'=(ss.filter fun x=>decide (getI (kvOf hr) x ≠ 0)).map fun x=>(x,getI (kvOf hr) x):=by
 refine q63 (List.Pairwise.filter _ lt) ?_ fun q=> ?_
 ·unfold q35
  rw[List.pairwise_map]
  exact List.Pairwise.filter _ st
 ·obtain⟨x,i⟩:=q
  unfold q5c
  rw[List.mem_filter,List.mem_map]
  constructor
  ·rintro⟨h1,h2⟩
   have h2:0 < i:=of_decide_eq_true h2
   have h3:getI (kvOf hr) x=i:=by rw[e];exact q9v nd (pm.mem_iff.mp h1)
   have h4:getI (kvOf hr) x ≠ 0:=by omega
   refine⟨x,List.mem_filter.mpr ⟨pm2.mem_iff.mpr (List.mem_map.mpr ⟨_,qd2 h4,rfl⟩),decide_eq_true h4⟩,by rw[h3]⟩
  ·rintro⟨y,h1,h2⟩
   obtain⟨h3,h4⟩:=List.mem_filter.mp h1
   have h4:=of_decide_eq_true h4
   injection h2 with e1 e2
   subst e1 e2
   rw[e]at h4 ⊢
   have h5:=qd2 h4
   have h6:0≤getI (kvOf rows) y:=pos _ h5
   exact⟨pm.mem_iff.mpr h5,decide_eq_true (by show 0 < getI (kvOf rows) y;omega)⟩
theorem qgc {κ:Type} [DecidableEq κ] {F:List (κ×V)} {k:κ} {v:V} (h:valV F k=some v):(k,v) ∈ F:=by
 unfold valV at h
 cases e:F.find? fun kv=>decide (kv.1=k) with
 | none=>rw[e]at h;cases h
 | some q =>
  rw[e]at h
  cases h
  have h1:=List.find?_some e
  have h1:=of_decide_eq_true h1
  have h2:=List.mem_of_find?_eq_some e
  obtain⟨a,b⟩:=q
  dsimp only at h1
  subst h1
  exact h2
theorem qhe {x y:Str} {i j:Nat} (h:kk x i=kk y j):x=y∧i=j:=by
 unfold kk at h
 have z1:=(List.cons.inj h).1
 have z2:=(List.cons.inj (List.cons.inj h).2).1
 have e1:x=y:=by injection z1
 have e2:(i:Int)=j:=by injection z2
 exact⟨e1,by omega⟩
def DI (R:Rn):Prop:=∀ (i:Nat) T F,R.desks[i]? = some (T,F)→∀ x ss,(x,ss) ∈ R.works→∀ (j:Nat) s,ss[j]? = some s→s.d=i→valV F (kk x j)=some (.str "did")→valV T (Sum.inr s.x:Key) ≠ none
theorem DI.same {R R':Rn} (h:DI R) (hd:R'.desks=R.desks) (hw:R'.works=R.works):DI R':=by unfold DI;rw[hd,hw];exact h
theorem q7i {T:Tb} {x y:Str} {i:Int} (h:valV T (Sum.inr y:Key) ≠ none):valV (putK T (Sum.inr x:Key) (.int i)) (Sum.inr y:Key) ≠ none:=by
 rw[q1w]
 split
 ·simp
 ·exact h
theorem q4d {α:Type} {l:List α} {i j:Nat} {a b:α} (h:(l.set i a)[j]? = some b):(j=i∧b=a)∨(j ≠ i∧l[j]? = some b):=by
 rw[List.getElem?_set]at h
 by_cases e:i=j
 ·rw[if_pos e]at h
  split at h
  ·exact .inl ⟨e.symm,(Option.some.inj h).symm⟩
  ·cases h
 ·rw[if_neg e]at h
  exact .inr ⟨fun z=>e z.symm,h⟩
theorem DI.arrive {R:Rn} {n:Nat} {x:Str} {ss:List Stp} {j:Nat} {s:Stp} (h:DI R) (ok:RnOk R n) (hm:(x,ss) ∈ R.works) (hs:ss[j]? = some s) (u:Bool):DI (q0r R s.d (reqM x s (if u=true then "undo" else "do") j)).2:=by
 have hd:=ok.sd x ss hm s (List.mem_of_getElem? hs)
 unfold q0r
 split
 ·rename_i T F e
  intro i T' F' e' x' ss' hm' j' s' hs' hi' hv
  have hm':(x',ss') ∈ R.works:=hm'
  rcases q4d e' with ⟨rfl,z⟩ | ⟨_,z⟩
  ·rw[Prod.mk.injEq]at z
   rw[z.2]at hv
   rw[z.1]
   have old:valV F (kk x' j')=some (.str "did")→valV T (Sum.inr s'.x:Key) ≠ none:=fun q=>h _ T F e x' ss' hm' j' s' hs' hi' q
   have me:kk x' j'=kk x j→s'=s:=fun q=>by
    obtain⟨rfl,rfl⟩:=qhe q
    have:=q42 ok hm hm'
    subst this
    rw[hs]at hs'
    exact(Option.some.inj hs').symm
   cases u with
   | false =>
    have e0:q21 T F (reqM x s (if false=true then "undo" else "do") j)=doM T F (kk x j) s.x s.n:=rfl
    rw[e0]at hv ⊢
    unfold doM at hv ⊢
    cases hk:valV F (kk x j) with
    | none =>
     rw[hk]at hv
     dsimp only at hv ⊢
     by_cases zz:getI T s.x < s.n
     ·rw[if_pos zz]at hv ⊢
      dsimp only at hv ⊢
      rw[q1w]at hv
      split at hv
      ·exact absurd (V.str.inj (Option.some.inj hv)) (show ¬ (("no" : Str)= "did") by decide +kernel)
      ·exact old hv
     ·rw[if_neg zz]at hv ⊢
      dsimp only at hv ⊢
      rw[q1w]at hv
      split at hv
      ·rename_i q
       rw[me q,q1w,if_pos rfl]
       simp
      ·exact q7i (old hv)
    | some v =>
     rw[hk]at hv
     exact old hv
   | true =>
    have e0:q21 T F (reqM x s (if true=true then "undo" else "do") j)=q3z T F (kk x j) s.x s.n:=rfl
    rw[e0]at hv ⊢
    unfold q3z at hv ⊢
    dsimp only at hv ⊢
    rw[q1w]at hv
    split at hv
    ·exact absurd (V.str.inj (Option.some.inj hv)) (show ¬ (("undid" : Str)= "did") by decide +kernel)
    ·split
     ·exact q7i (old hv)
     ·exact old hv
  ·exact h i T' F' z x' ss' hm' j' s' hs' hi' hv
 ·exact h
theorem qa3 (R:Rn) (x:Str) (s:Stp) (u:Bool) (i:Int) (luck:Str) {q:Rq} (hq:reqM x s (if u=true then "undo" else "do") i=q):q0w R x s u i luck =
  if luck= "ok" then (some ((q0r R s.d q).1,i),q1x (q0r R s.d q).2 x ((q0r R s.d q).1,i))
  else if u=true then (none,(q1d R s.d q luck).2)
  else if R.bound≤getI R.tries x + 1 then (some ("unsure",i),q1x { (q1d R s.d q luck).2 with tries:=putK R.tries (Sum.inr x:Key) (.int (getI R.tries x + 1)) } x ("unsure",i))
  else (none,{ (q1d R s.d q luck).2 with tries:=putK R.tries (Sum.inr x:Key) (.int (getI R.tries x + 1)) }):=by
 have nl:¬ (("ok" : Str)= "lost"):=by decide +kernel
 obtain⟨a1,a2,a3,a4,a5,a6,a7⟩:=q16 R s.d q
 have hs:(q1d R s.d q luck).2.tries=R.tries∧(q1d R s.d q luck).2.bound=R.bound∧(q1d R s.d q luck).1=if luck= "ok" then some (q0r R s.d q).1 else none:=by
  unfold q1d
  by_cases e:luck= "lost"
  ·rw[if_pos e]
   refine⟨rfl,rfl,?_⟩
   rw[if_neg (by rw[e];intro z;exact nl z.symm)]
  ·rw[if_neg e]
   exact⟨a4,a5,rfl⟩
 unfold q0w
 rw[hq]
 by_cases ho:luck= "ok"
 ·rw[if_pos ho]
  have e2:q1d R s.d q luck=(some (q0r R s.d q).1,(q0r R s.d q).2):=by
   unfold q1d
   rw[if_neg (by rw[ho];exact nl),if_pos ho]
  rw[e2]
 ·rw[if_neg ho]
  rw[if_neg ho]at hs
  obtain⟨h1,h2,h3⟩:=hs
  generalize q1d R s.d q luck=z at h1 h2 h3
  obtain⟨w,R1⟩:=z
  dsimp only at h1 h2 h3 ⊢
  subst h3
  dsimp only
  unfold q15
  by_cases hu:u=true
  ·rw[if_pos hu,if_pos hu]
  ·rw[if_neg hu,if_neg hu,h1,h2]
   by_cases hb:R.bound≤getI R.tries x + 1
   ·rw[if_pos hb,if_pos hb]
   ·rw[if_neg hb,if_neg hb]
def TRel (R:Rn) (tw:Tb):Prop:=∀ x,(∀ ss i,(x,ss) ∈ R.works→nxOf ss.length (R.trail x) ≠ .un i)→getI tw x=getI R.tries x
def q2c (R:Rn) (tw:Tb) (x luck:Str) (u:Bool):Tb:=if luck= "ok" then putK tw (Sum.inr x:Key) (.int 0)
 else if u=true∨getI tw x + 1 < R.bound then putK tw (Sum.inr x:Key) (.int (getI tw x + 1)) else putK (putK tw (Sum.inr x:Key) (.int (getI tw x + 1))) (Sum.inr x:Key) (.int 0)
def goT (R:Rn) (tw:Tb) (x luck:Str):Tb:=if R.up=false then tw else match R.wk x with
 | none=>tw
 | some ss=>match nxOf ss.length (R.trail x) with
  | .dO _=>q2c R tw x luck false
  | .un _=>q2c R tw x luck true
  | _=>tw
def qb1 (R:Rn) (tw:Tb):Deed→Tb
 | .go x luck=>goT R tw x luck
 | .stop=>[]
 | _=>tw
structure YI (c:Int) (R:Rn) (tw:Tb) (n:Nat):Prop where
 ok:RnOk R n
 mr:MR R
 ci:∃ L,CI c L R
 di:DI R
 tr:TRel R tw
 us:R.up=false→R.tries=[]
 it:q1r tw
 lt:tw.length≤2 * n
theorem q9c (R:Rn) (d:Int) (q:Rq) (luck:Str):(q1d R d q luck).2.works=R.works∧(q1d R d q luck).2.trail=R.trail∧(q1d R d q luck).2.up=R.up∧(q1d R d q luck).2.tries=R.tries∧(q1d R d q luck).2.bound=R.bound:=by
 obtain⟨a1,a2,a3,a4,a5,a6,a7⟩:=q16 R d q
 unfold q1d
 split
 ·exact⟨rfl,rfl,rfl,rfl,rfl⟩
 ·exact⟨a1,a2,a6,a4,a5⟩
theorem q32 (T:Tb) (x:Str) (i:Int):getI (putK T (Sum.inr x:Key) (.int i)) x=i:=by rw[q3i,if_pos rfl]
theorem q2i (T:Tb) {x y:Str} (i:Int) (h:y ≠ x):getI (putK T (Sum.inr x:Key) (.int i)) y=getI T y:=by rw[q3i,if_neg h]
theorem q8c (R:Rn) (tw:Tb) {x y:Str} (luck:Str) (u:Bool) (h:y ≠ x):getI (q2c R tw x luck u) y=getI tw y:=by
 unfold q2c
 split
 ·rw[q2i _ _ h]
 ·split
  ·rw[q2i _ _ h]
  ·rw[q2i _ _ h,q2i _ _ h]
theorem TRel.attempt {R:Rn} {tw:Tb} {x luck:Str} {ss:List Stp} {s:Stp} {u:Bool} {i:Int} (h:TRel R tw) (hm:(x,ss) ∈ R.works) (uq:∀ tt,(x,tt) ∈ R.works→ss=tt) (hx:nxOf ss.length (R.trail x)=(if u=true then .un i else .dO i)):TRel (q0w R x s u i luck).2 (q2c R tw x luck u):=by
 obtain⟨q,hq⟩:∃ q,reqM x s (if u=true then "undo" else "do") i=q:=⟨_,rfl⟩
 obtain⟨b1,b2,b3,b4,b5⟩:=q9c R s.d q luck
 obtain⟨a1,a2,a3,a4,a5,a6,a7⟩:=q16 R s.d q
 rw[qa3 R x s u i luck hq]
 intro y hy
 by_cases e:y=x
 ·subst e
  unfold q2c
  by_cases ho:luck= "ok"
  ·rw[if_pos ho,if_pos ho,q32]
   show _=getI (putK _ _ _) y
   rw[q32]
  ·rw[if_neg ho]at hy ⊢
   rw[if_neg ho]
   by_cases hu:u=true
   ·rw[if_pos hu]at hy hx
    exfalso
    refine hy ss i ?_ ?_
    ·show (y,ss) ∈ (q1d R s.d q luck).2.works
     rw[b1];exact hm
    ·show nxOf ss.length ((q1d R s.d q luck).2.trail y)=_
     rw[b2];exact hx
   ·rw[if_neg hu]at hy hx ⊢
    have ht:getI tw y=getI R.tries y:=h y fun tt j hm'=>by
     rw[← uq tt hm',hx]
     intro z;cases z
    rw[ht]
    by_cases hb:R.bound≤getI R.tries y + 1
    ·rw[if_pos hb,if_neg (by intro z;rcases z with z | z;exact hu z;omega),q32]
     show _=getI (putK _ _ _) y
     rw[q32]
    ·rw[if_neg hb,if_pos (.inr (by omega)),q32]
     show _=getI (putK _ _ _) y
     rw[q32]
 ·rw[q8c R tw luck u e]
  have key:∀ R':Rn,R'.works=R.works→R'.trail y=R.trail y→getI R'.tries y=getI R.tries y→(∀ tt j,(y,tt) ∈ R'.works→nxOf tt.length (R'.trail y) ≠ .un j)→getI tw y=getI R'.tries y:=fun R' w1 w2 w3 hy'=>by
   rw[w3]
   refine h y fun tt j hm'=> ?_
   have:=hy' tt j (by rw[w1];exact hm')
   rw[w2]at this
   exact this
  have wr:∀ (R1:Rn) (en:En),(q1x R1 x en).trail y=R1.trail y:=fun R1 en=>by show (if y=x then _ else R1.trail y)=_;rw[if_neg e]
  by_cases ho:luck= "ok"
  ·rw[if_pos ho]at hy ⊢
   refine key _ a1 (by rw[wr,a2]) ?_ hy
   show getI (putK _ _ _) y=_
   rw[q2i _ _ e,a4]
  ·rw[if_neg ho]at hy ⊢
   by_cases hu:u=true
   ·rw[if_pos hu]at hy ⊢
    exact key _ b1 (by rw[b2]) (by rw[b4]) hy
   ·rw[if_neg hu]at hy ⊢
    by_cases hb:R.bound≤getI R.tries x + 1
    ·rw[if_pos hb]at hy ⊢
     refine key _ b1 (by rw[wr];exact congrFun b2 y) ?_ hy
     show getI (putK (putK _ _ _) _ _) y=_
     rw[q2i _ _ e,q2i _ _ e]
    ·rw[if_neg hb]at hy ⊢
     refine key _ b1 (congrFun b2 y) ?_ hy
     show getI (putK _ _ _) y=_
     rw[q2i _ _ e]
theorem qc2 (R:Rn) (tw:Tb) (x luck:Str) (u:Bool):(q2c R tw x luck u).length≤tw.length + 2:=by
 unfold q2c
 split
 ·exact Nat.le_trans (q0o _ _ _) (by omega)
 ·split
  ·exact Nat.le_trans (q0o _ _ _) (by omega)
  ·exact Nat.le_trans (q0o _ _ _) (Nat.succ_le_succ (q0o _ _ _))
theorem qc0 (R:Rn) {tw:Tb} (h:q1r tw) (x luck:Str) (u:Bool):q1r (q2c R tw x luck u):=by
 unfold q2c
 split
 ·exact h.put _ _
 ·split
  ·exact h.put _ _
  ·exact(h.put _ _).put _ _
theorem DI.attempt {R:Rn} {n:Nat} {x luck:Str} {ss:List Stp} {s:Stp} {u:Bool} {i:Nat} (h:DI R) (ok:RnOk R n) (hm:(x,ss) ∈ R.works) (hs:ss[i]? = some s):DI (q0w R x s u i luck).2:=by
 have h0:=h.arrive ok hm hs u
 obtain⟨q,hq⟩:∃ q,reqM x s (if u=true then "undo" else "do") i=q:=⟨_,rfl⟩
 rw[hq]at h0
 have h1:DI (q1d R s.d q luck).2:=by
  unfold q1d
  split
  ·exact h.same rfl rfl
  ·exact h0
 rw[qa3 R x s u i luck hq]
 split
 ·exact h0.same rfl rfl
 ·split
  ·exact h1
  ·split
   ·exact h1.same rfl rfl
   ·exact h1.same rfl rfl
theorem YI.deed {c:Int} {R:Rn} {tw:Tb} {n:Nat} (h:YI c R tw n) (d:Deed) (hd:q5m c d):YI c (q1j R d).2 (qb1 R tw d) (n + 1):=by
 have ok':RnOk (q1j R d).2 (n + 1):=h.ok.deed d fun x ss e=>by
  rw[e]at hd
  have:=hd.2.1
  omega
 have mr':=h.mr.deed h.ok d
 obtain⟨L,hL⟩:=h.ci
 have ci':=hL.deed h.ok d hd
 have hlt:=h.lt
 cases d with
 | start x ss =>
  rcases q6t (R:=R) (x:=x) (ss:=ss) with e | ⟨hw,e⟩
  ·refine⟨ok',mr',⟨_,ci'⟩,?_,?_,?_,h.it,by show tw.length≤_;omega⟩
   ·rw[e];exact h.di
   ·rw[e];exact h.tr
   ·rw[e];exact h.us
  ·refine⟨ok',mr',⟨_,ci'⟩,?_,?_,?_,h.it,by show tw.length≤_;omega⟩
   ·rw[e]
    intro i T F e1 y tt hm j s hs hi hv
    have hm:(y,tt) ∈ R.works ++ [(x,ss)]:=hm
    rw[List.mem_append]at hm
    rcases hm with z | z
    ·exact h.di i T F e1 y tt z j s hs hi hv
    ·simp at z
     obtain⟨rfl,rfl⟩:=z
     obtain⟨z',tt',hm',j',s',y',_,_,ek,_⟩:=hL.ks i T F e1 _ (qgc hv)
     have ek:=congrArg Prod.fst ek
     obtain⟨rfl,_⟩:=qhe ek
     exact absurd rfl (q2x hw _ hm')
   ·rw[e]
    intro y hy
    show getI tw y=getI R.tries y
    refine h.tr y fun tt i hm=> ?_
    have ny:y ≠ x:=fun z=>q2x hw _ hm z
    have:=hy tt i (List.mem_append_left _ hm)
    have e2:(if y=x then [] else R.trail y)=R.trail y:=if_neg ny
    rw[← e2]
    exact this
   ·rw[e];exact h.us
 | go x luck =>
  have same:(goM R x luck).2=R→goT R tw x luck=tw→YI c (goM R x luck).2 (goT R tw x luck) (n + 1):=fun e1 e2=>by
   have ok':RnOk (goM R x luck).2 (n + 1):=ok'
   have mr':MR (goM R x luck).2:=mr'
   have ci':CI c (qjc L (.go x luck)) (goM R x luck).2:=ci'
   rw[e1]at ok' mr' ci' ⊢
   rw[e2]
   exact⟨ok',mr',⟨_,ci'⟩,h.di,h.tr,h.us,h.it,by omega⟩
  by_cases hu:R.up=false
  ·exact same (by unfold goM;rw[if_pos hu]) (by unfold goT;rw[if_pos hu])
  ·cases hw:R.wk x with
   | none=>exact same (by unfold goM;rw[if_neg hu,hw]) (by unfold goT;rw[if_neg hu,hw])
   | some ss =>
    have hm:(x,ss) ∈ R.works:=q2q hw
    have uq:∀ tt,(x,tt) ∈ R.works→ss=tt:=fun tt ht=>q42 h.ok hm ht
    have att:∀ (u:Bool) (i:Int),nxOf ss.length (R.trail x)=(if u=true then .un i else .dO i)→YI c (goM R x luck).2 (goT R tw x luck) (n + 1):=fun u i e=>by
     have hi:=h.ok.next hm (i:=i) (by cases u with | false=>exact .inl e | true=>exact .inr e)
     have hi':i.toNat < ss.length:=by omega
     have es:ss[i.toNat]? = some ss[i.toNat]:=List.getElem?_eq_getElem hi'
     have eg:(goM R x luck).2=(q0w R x ss[i.toNat] u i luck).2:=by
      unfold goM
      rw[if_neg hu,hw]
      dsimp only
      cases u with
      | false=>rw[show nxOf ss.length (R.trail x)= .dO i from e];dsimp only;rw[es]
      | true=>rw[show nxOf ss.length (R.trail x)= .un i from e];dsimp only;rw[es]
     have et:goT R tw x luck=q2c R tw x luck u:=by
      unfold goT
      rw[if_neg hu,hw]
      dsimp only
      cases u with
      | false=>rw[show nxOf ss.length (R.trail x)= .dO i from e]
      | true=>rw[show nxOf ss.length (R.trail x)= .un i from e]
     have ok':RnOk (goM R x luck).2 (n + 1):=ok'
     have mr':MR (goM R x luck).2:=mr'
     have ci':CI c (qjc L (.go x luck)) (goM R x luck).2:=ci'
     have hup:(goM R x luck).2.up=R.up:=by
      obtain⟨q,hq⟩:∃ q,reqM x ss[i.toNat] (if u=true then "undo" else "do") i=q:=⟨_,rfl⟩
      rw[eg,qa3 R x _ u i luck hq]
      obtain⟨b1,b2,b3,b4,b5⟩:=q9c R ss[i.toNat].d q luck
      obtain⟨a1,a2,a3,a4,a5,a6,a7⟩:=q16 R ss[i.toNat].d q
      split
      ·exact a6
      ·split
       ·exact b3
       ·split
        ·exact b3
        ·exact b3
     refine⟨ok',mr',⟨_,ci'⟩,?_,?_,fun z=>absurd (hup.symm.trans z) hu,?_,?_⟩
     ·rw[eg]
      have:=h.di.attempt (luck:=luck) (u:=u) (i:=i.toNat) h.ok hm es
      rw[show ((i.toNat:Nat):Int)=i by omega]at this
      exact this
     ·rw[eg,et]
      exact h.tr.attempt hm uq e
     ·rw[et];exact qc0 R h.it x luck u
     ·rw[et]
      have:=qc2 R tw x luck u
      omega
    cases e:nxOf ss.length (R.trail x) with
    | dO i=>exact att false i e
    | un i=>exact att true i e
    | dn=>exact same (by unfold goM;rw[if_neg hu,hw];dsimp only;rw[e]) (by unfold goT;rw[if_neg hu,hw];dsimp only;rw[e])
    | ud=>exact same (by unfold goM;rw[if_neg hu,hw];dsimp only;rw[e]) (by unfold goT;rw[if_neg hu,hw];dsimp only;rw[e])
 | late i =>
  have sw:(q2l R i).2.works=R.works∧(q2l R i).2.trail=R.trail∧(q2l R i).2.up=R.up∧(q2l R i).2.tries=R.tries:=by
   unfold q2l
   split
   ·exact⟨rfl,rfl,rfl,rfl⟩
   ·split
    ·rename_i d q e
     obtain⟨a1,a2,a3,a4,a5,a6,a7⟩:=q16 R d q
     exact⟨a1,a2,a6,a4⟩
    ·exact⟨rfl,rfl,rfl,rfl⟩
  refine⟨ok',mr',⟨_,ci'⟩,?_,?_,?_,h.it,by show tw.length≤_;omega⟩
  ·show DI (q2l R i).2
   unfold q2l
   split
   ·exact h.di
   ·split
    ·rename_i d q e
     obtain⟨x,ss,hm,j,s,u,hs,ep⟩:=hL.ls _ (List.mem_of_getElem? e)
     cases ep
     exact h.di.arrive h.ok hm hs u
    ·exact h.di
  ·intro y hy
   show getI tw y=getI (q2l R i).2.tries y
   rw[sw.2.2.2]
   refine h.tr y fun tt j hm=> ?_
   have:=hy tt j (by show (y,tt) ∈ (q2l R i).2.works;rw[sw.1];exact hm)
   have e2:(q1j R (.late i)).2.trail=R.trail:=sw.2.1
   rw[e2]at this
   exact this
  ·intro z
   show (q2l R i).2.tries=[]
   rw[sw.2.2.2]
   exact h.us (sw.2.2.1.symm.trans z)
 | fill d x m =>
  have sw:(q28 R d x m).2.works=R.works∧(q28 R d x m).2.trail=R.trail∧(q28 R d x m).2.up=R.up∧(q28 R d x m).2.tries=R.tries:=by
   unfold q28
   split
   ·split
    ·exact⟨rfl,rfl,rfl,rfl⟩
    ·exact⟨rfl,rfl,rfl,rfl⟩
   ·exact⟨rfl,rfl,rfl,rfl⟩
  refine⟨ok',mr',⟨_,ci'⟩,?_,?_,?_,h.it,by show tw.length≤_;omega⟩
  ·show DI (q28 R d x m).2
   unfold q28
   split
   ·split
    ·rename_i T F e
     intro i T' F' e' y tt hm j s hs hi hv
     rcases q4d e' with ⟨rfl,z⟩ | ⟨_,z⟩
     ·rw[Prod.mk.injEq]at z
      rw[z.1]
      rw[z.2]at hv
      exact q7i (h.di _ T F e y tt hm j s hs hi hv)
     ·exact h.di i T' F' z y tt hm j s hs hi hv
    ·exact h.di
   ·exact h.di
  ·intro y hy
   show getI tw y=getI (q28 R d x m).2.tries y
   rw[sw.2.2.2]
   refine h.tr y fun tt j hm=> ?_
   have:=hy tt j (by show (y,tt) ∈ (q28 R d x m).2.works;rw[sw.1];exact hm)
   have e2:(q1j R (.fill d x m)).2.trail=R.trail:=sw.2.1
   rw[e2]at this
   exact this
  ·intro z
   show (q28 R d x m).2.tries=[]
   rw[sw.2.2.2]
   exact h.us (sw.2.2.1.symm.trans z)
 | stop =>
  have e1:(q1j R .stop).2={ R with up:=false,tries:=[] }:=by
   show (if R.up=true then (An.bl true,({ R with up:=false,tries:=[] }:Rn)) else (.bl false,R)).2=_
   by_cases hu:R.up=true
   ·rw[if_pos hu]
   ·rw[if_neg hu]
    have hf:R.up=false:=by cases e:R.up with | true=>exact absurd e hu | false=>rfl
    have:=h.us hf
    obtain⟨ds,b,up,ws,tr,ti,lo⟩:=R
    dsimp only at hf this ⊢
    subst hf this
    rfl
  refine⟨ok',mr',⟨_,ci'⟩,?_,?_,?_,?_,Nat.zero_le _⟩
  ·rw[e1];exact h.di.same rfl rfl
  ·rw[e1];intro y _;rfl
  ·rw[e1];intro _;rfl
  ·intro k v e;cases e
 | wake =>
  have e1:(q1j R .wake).2={ R with up:=true }:=by
   show (if R.up=true then (An.bl false,R) else (.bl true,{ R with up:=true })).2=_
   by_cases hu:R.up=true
   ·rw[if_pos hu]
    obtain⟨ds,b,up,ws,tr,ti,lo⟩:=R
    dsimp only at hu ⊢
    subst hu
    rfl
   ·rw[if_neg hu]
  refine⟨ok',mr',⟨_,ci'⟩,?_,?_,?_,h.it,by show tw.length≤_;omega⟩
  ·rw[e1];exact h.di.same rfl rfl
  ·rw[e1];exact fun y hy=>h.tr y hy
  ·rw[e1];intro z;cases z
theorem YI.new {c:Int} {Ts:List Tb} {n:Nat} (b:Int) (okT:StOk Ts n) (tbT:∀ T ∈ Ts,TbW c T):YI c (newR Ts b) [] n :=
 ⟨q93 okT,MR.new Ts b,⟨_,CI.new b tbT⟩,fun i T F e x ss hm=>(by simp[newR]at hm),fun x _=>rfl,fun z=>(by simp[newR]at z),fun k v e=>(by cases e),Nat.zero_le _⟩
end K07
end
section
namespace K07
open PySem L2
theorem Ents.snoc1 {H:Hp} {as:List Addr} {t:List En} {a:Addr} {e:En} (h:Ents H as t) (hq:H a=some (.tup (enV e))):Ents H (as ++ [a]) (t ++ [e]):=by
 refine⟨by simp[h.len],fun i b q' ea er=> ?_⟩
 by_cases hi:i < as.length
 ·rw[List.getElem?_append_left hi]at ea
  rw[List.getElem?_append_left (by rw[← h.len];exact hi)]at er
  exact h.at_ i b q' ea er
 ·have e1:i=as.length:=by
   have:=(List.getElem?_eq_some_iff.mp ea).1
   simp at this
   omega
  subst e1
  rw[List.getElem?_append_right (Nat.le_refl _)]at ea
  rw[h.len,List.getElem?_append_right (Nat.le_refl _)]at er
  simp at ea er
  subst ea er
  exact hq
def yT (th:Addr) (b:Int) (u:Bool) (lo ky wd td ti:Addr):Tb:=[(Sum.inr "things",.ref th),(Sum.inr "bound",.int b),(Sum.inr "up",.bl u),(Sum.inr "lost",.ref lo),(Sum.inr "keys",.ref ky),(Sum.inr "works",.ref wd),(Sum.inr "trails",.ref td),(Sum.inr "tries",.ref ti)]
section
variable (th:Addr) (b:Int) (u:Bool) (lo ky wd td ti:Addr)
theorem q3c:valV (yT th b u lo ky wd td ti) (Sum.inr "things" : Key)=some (.ref th):=by with_unfolding_all rfl
theorem qfd:valV (yT th b u lo ky wd td ti) (Sum.inr "bound" : Key)=some (.int b):=by with_unfolding_all rfl
theorem qcr:valV (yT th b u lo ky wd td ti) (Sum.inr "up" : Key)=some (.bl u):=by with_unfolding_all rfl
theorem q5l:valV (yT th b u lo ky wd td ti) (Sum.inr "lost" : Key)=some (.ref lo):=by with_unfolding_all rfl
theorem qea:valV (yT th b u lo ky wd td ti) (Sum.inr "keys" : Key)=some (.ref ky):=by with_unfolding_all rfl
theorem q3p:valV (yT th b u lo ky wd td ti) (Sum.inr "works" : Key)=some (.ref wd):=by with_unfolding_all rfl
theorem q5e:valV (yT th b u lo ky wd td ti) (Sum.inr "trails" : Key)=some (.ref td):=by with_unfolding_all rfl
theorem q4f:valV (yT th b u lo ky wd td ti) (Sum.inr "tries" : Key)=some (.ref ti):=by with_unfolding_all rfl
theorem qk6 (u':Bool):putK (yT th b u lo ky wd td ti) (Sum.inr "up" : Key) (.bl u')=yT th b u' lo ky wd td ti:=by with_unfolding_all rfl
theorem qf5 (ti':Addr):putK (yT th b u lo ky wd td ti) (Sum.inr "tries" : Key) (.ref ti')=yT th b u lo ky wd td ti':=by with_unfolding_all rfl
theorem ql4:putK (putK (putK (putK (q5g [] [((Sum.inr "things" : Key),V.ref th),(Sum.inr "bound",V.int b),(Sum.inr "up",V.bl u),(Sum.inr "lost",V.ref lo)]) (Sum.inr "keys" : Key) (.ref ky)) (Sum.inr "works" : Key) (.ref wd)) (Sum.inr "trails" : Key) (.ref td)) (Sum.inr "tries" : Key) (.ref ti)=yT th b u lo ky wd td ti:=by with_unfolding_all rfl
end
theorem dgY {H:Hp} {y:Addr} {kvs:Tb} {x:Str} {v:V} (h:H y=some (.dK kvs)) (e:valV kvs (Sum.inr x:Key)=some v):DGet H y (.str x) (some v):=by
 have:=DGet.k (k:=Sum.inr x) h
 rw[e]at this
 exact this
structure YA where
 tg:Addr→Tg
 th:Addr
 ky:Addr
 wd:Addr
 td:Addr
 ti:Addr
 lo:Addr
 tas:List Addr
 kas:List Addr
 wa:Str→Addr
 ta:Str→Addr
structure YP (ex:Tg→Bool) (H0 H:Hp) (y:Addr) (R:Rn) (tw:Tb) (A:YA):Prop where
 kp:Kp [] H0 H
 fr:∀ b o,H0 b=some o→A.tg b= .no
 ty:A.tg y= .run
 hy:ex .run=false→H y=some (.dK (yT A.th R.bound R.up A.lo A.ky A.wd A.td A.ti))
 tth:A.tg A.th= .dl
 hth:ex .dl=false→H A.th=some (.lst (A.tas.map V.ref))
 tky:A.tg A.ky= .desk
 hky:ex .desk=false→H A.ky=some (.lst (A.kas.map V.ref))
 lt:A.tas.length=R.desks.length
 lk:A.kas.length=R.desks.length
 dk:∀ (i:Nat) a T F,A.tas[i]? = some a→R.desks[i]? = some (T,F)→ex (.stock i)=false→A.tg a= .stock i∧H a=some (.dK T)
 kk:∀ (i:Nat) q T F,A.kas[i]? = some q→R.desks[i]? = some (T,F)→ex (.fates i)=false→A.tg q= .fates i∧∃ bs,H q=some (.lst (bs.map V.ref))∧q1p H bs F
 twd:A.tg A.wd= .works
 hwd:ex .works=false→H A.wd=some (.dK (wkT R.works A.wa))
 wk:∀ x ss,(x,ss) ∈ R.works→∃ as,H0 (A.wa x)=some (.lst (as.map V.ref))∧Stps H0 as ss
 ttd:A.tg A.td= .trails
 htd:ex .trails=false→H A.td=some (.dK (wkT R.works A.ta))
 tl:∀ x ss,(x,ss) ∈ R.works→ex (.trail x)=false→A.tg (A.ta x)= .trail x∧∃ as,TrAt H (A.ta x) as (R.trail x)
 tti:A.tg A.ti= .tries
 hti:ex .tries=false→H A.ti=some (.dK tw)
 tlo:A.tg A.lo= .lost
 hlo:ex .lost=false→∃ as,H A.lo=some (.lst (as.map V.ref))∧Losts H as R.lost
def exO (t0:Tg):Tg→Bool:=fun t=>decide (t=t0)
theorem q0p {t0 t:Tg} (h:t ≠ t0):exO t0 t=false:=decide_eq_false h
section
variable {ex:Tg→Bool} {H0 H H':Hp} {y a:Addr} {R:Rn} {tw:Tb} {A:YA}
theorem YP.step (I:YP exN H0 H y R tw A) {xs:List Addr} (k:Kp xs H H') (hx:∀ a ∈ xs,ex (A.tg a)=true∧A.tg a ≠ .no∧∀ ys,H a ≠ some (.tup ys)):YP ex H0 H' y R tw A:=by
 have ne:∀ {b:Addr} {o:HO} {t:Tg},A.tg b=t→ex t=false→H b=some o→H' b=some o:=fun {b o t} e f h=>k.get h fun z=>by
  have:=(hx b z).1
  rw[e,f]at this
  cases this
 have tk:TK H H':=Kp.tk k fun a ha=>(hx a ha).2.2
 refine⟨fun b o h _=>k.get (I.kp.get h nEm) fun z=>(hx b z).2.1 (I.fr b o h),I.fr,I.ty,fun f=>ne I.ty f (I.hy rfl),I.tth,fun f=>ne I.tth f (I.hth rfl),I.tky,fun f=>ne I.tky f (I.hky rfl),I.lt,I.lk,fun i a T F e1 e2 f=> ?_,fun i q T F e1 e2 f=> ?_,
  I.twd,fun f=>ne I.twd f (I.hwd rfl),I.wk,I.ttd,fun f=>ne I.ttd f (I.htd rfl),fun x ss hm f=> ?_,I.tti,fun f=>ne I.tti f (I.hti rfl),I.tlo,fun f=> ?_⟩
 ·obtain⟨t,h⟩:=I.dk i a T F e1 e2 rfl
  exact⟨t,ne t f h⟩
 ·obtain⟨t,bs,h,K⟩:=I.kk i q T F e1 e2 rfl
  exact⟨t,bs,ne t f h,K.tk tk⟩
 ·obtain⟨t,as,T⟩:=I.tl x ss hm rfl
  exact⟨t,as,ne t f T.ls,T.en.tk tk⟩
 ·obtain⟨as,h,S⟩:=I.hlo rfl
  exact⟨as,ne I.tlo f h,S.tk tk⟩
theorem YP.same (I:YP exN H0 H y R tw A) (k:Kp [] H H'):YP exN H0 H' y R tw A:=I.step k (by simp)
theorem YP.one (I:YP exN H0 H y R tw A) {o:HO} {t:Tg} (ht:A.tg a=t) (hn:t ≠ .no) (nt:∀ ys,H a ≠ some (.tup ys)):YP (exO t) H0 (upd H a o) y R tw A :=
 I.step (xs:=[a]) (Kp.put (by simp)) fun b hb=>by
  simp at hb
  subst hb
  rw[ht]
  exact⟨decide_eq_true rfl,hn,nt⟩
theorem YP.putT (I:YP exN H0 H y R tw A) {i:Nat} {T T':Tb} {F:Fb} (e1:A.tas[i]? = some a) (e2:R.desks[i]? = some (T,F)):YP exN H0 (upd H a (.dK T')) y (setD R i (T',F)) tw A:=by
 obtain⟨ht,ha⟩:=I.dk i a T F e1 e2 rfl
 have J:=I.one (o:= .dK T') ht (by simp) (by rw[ha];intro ys z;cases z)
 have hi:i < R.desks.length:=(List.getElem?_eq_some_iff.mp e2).1
 have el:(setD R i (T',F)).desks.length=R.desks.length:=List.length_set
 refine⟨J.kp,J.fr,J.ty,fun _=>J.hy (q0p (by simp)),J.tth,fun _=>J.hth (q0p (by simp)),J.tky,fun _=>J.hky (q0p (by simp)),J.lt.trans el.symm,J.lk.trans el.symm,fun j b T2 F2 z1 z2 _=> ?_,fun j q T2 F2 z1 z2 _=> ?_,
  J.twd,fun _=>J.hwd (q0p (by simp)),J.wk,J.ttd,fun _=>J.htd (q0p (by simp)),fun x ss hm _=>J.tl x ss hm (q0p (by simp)),J.tti,fun _=>J.hti (q0p (by simp)),J.tlo,fun _=>J.hlo (q0p (by simp))⟩
 ·rcases q4d z2 with ⟨rfl,z⟩ | ⟨nj,z⟩
  ·cases z
   rw[e1]at z1
   cases z1
   exact⟨ht,q03⟩
  ·exact J.dk j b T2 F2 z1 z (q0p (by intro w;cases w;exact nj rfl))
 ·rcases q4d z2 with ⟨rfl,z⟩ | ⟨nj,z⟩
  ·cases z
   exact J.kk _ q T F z1 e2 (q0p (by simp))
  ·exact J.kk j q T2 F2 z1 z (q0p (by simp))
theorem YP.putR (I:YP exN H0 H y R tw A) {i:Nat} {T:Tb} {F F':Fb} {bs:List Addr} (e1:A.kas[i]? = some a) (e2:R.desks[i]? = some (T,F)) (K:q1p H bs F'):YP exN H0 (upd H a (.lst (bs.map V.ref))) y (setD R i (T,F')) tw A:=by
 obtain⟨ht,bs0,ha,_⟩:=I.kk i a T F e1 e2 rfl
 have nt:∀ ys,H a ≠ some (.tup ys):=by rw[ha];intro ys z;cases z
 have J:=I.one (o:= .lst (bs.map V.ref)) ht (by simp) nt
 have tk:TK H (upd H a (.lst (bs.map V.ref))):=Kp.tk (xs:=[a]) (Kp.put (by simp)) fun b hb=>by simp at hb;subst hb;exact nt
 have el:(setD R i (T,F')).desks.length=R.desks.length:=List.length_set
 refine⟨J.kp,J.fr,J.ty,fun _=>J.hy (q0p (by simp)),J.tth,fun _=>J.hth (q0p (by simp)),J.tky,fun _=>J.hky (q0p (by simp)),J.lt.trans el.symm,J.lk.trans el.symm,fun j b T2 F2 z1 z2 _=> ?_,fun j q T2 F2 z1 z2 _=> ?_,
  J.twd,fun _=>J.hwd (q0p (by simp)),J.wk,J.ttd,fun _=>J.htd (q0p (by simp)),fun x ss hm _=>J.tl x ss hm (q0p (by simp)),J.tti,fun _=>J.hti (q0p (by simp)),J.tlo,fun _=>J.hlo (q0p (by simp))⟩
 ·rcases q4d z2 with ⟨rfl,z⟩ | ⟨nj,z⟩
  ·cases z
   exact J.dk _ b T F z1 e2 (q0p (by simp))
  ·exact J.dk j b T2 F2 z1 z (q0p (by simp))
 ·rcases q4d z2 with ⟨rfl,z⟩ | ⟨nj,z⟩
  ·cases z
   rw[e1]at z1
   cases z1
   exact⟨ht,bs,q03,K.tk tk⟩
  ·exact J.kk j q T2 F2 z1 z (q0p (by intro w;cases w;exact nj rfl))
theorem YP.putI (I:YP exN H0 H y R tw A) (tw':Tb):YP exN H0 (upd H A.ti (.dK tw')) y R tw' A:=by
 have J:=I.one (o:= .dK tw') I.tti (by simp) (by rw[I.hti rfl];intro ys z;cases z)
 exact⟨J.kp,J.fr,J.ty,fun _=>J.hy (q0p (by simp)),J.tth,fun _=>J.hth (q0p (by simp)),J.tky,fun _=>J.hky (q0p (by simp)),J.lt,J.lk,fun j b T2 F2 z1 z2 _=>J.dk j b T2 F2 z1 z2 (q0p (by simp)),fun j q T2 F2 z1 z2 _=>J.kk j q T2 F2 z1 z2 (q0p (by simp)),
  J.twd,fun _=>J.hwd (q0p (by simp)),J.wk,J.ttd,fun _=>J.htd (q0p (by simp)),fun x ss hm _=>J.tl x ss hm (q0p (by simp)),J.tti,fun _=>q03,J.tlo,fun _=>J.hlo (q0p (by simp))⟩
theorem YP.putE (I:YP exN H0 H y R tw A) {x:Str} {ss:List Stp} {as:List Addr} {t:Addr} {e:En} (hm:(x,ss) ∈ R.works) (T:TrAt H (A.ta x) as (R.trail x)) (ht:H t=some (.tup (enV e))):YP exN H0 (upd H (A.ta x) (.lst (as.map V.ref ++ [V.ref t]))) y { R with trail:=fun z=>if z=x then R.trail x ++ [e] else R.trail z } tw A:=by
 have hx:=(I.tl x ss hm rfl).1
 have nt:∀ ys,H (A.ta x) ≠ some (.tup ys):=by rw[T.ls];intro ys z;cases z
 have J:=I.one (o:= .lst (as.map V.ref ++ [V.ref t])) hx (by simp) nt
 have tk:TK H (upd H (A.ta x) (.lst (as.map V.ref ++ [V.ref t]))):=Kp.tk (xs:=[A.ta x]) (Kp.put (by simp)) fun b hb=>by simp at hb;subst hb;exact nt
 refine⟨J.kp,J.fr,J.ty,fun _=>J.hy (q0p (by simp)),J.tth,fun _=>J.hth (q0p (by simp)),J.tky,fun _=>J.hky (q0p (by simp)),J.lt,J.lk,fun j b T2 F2 z1 z2 _=>J.dk j b T2 F2 z1 z2 (q0p (by simp)),fun j q T2 F2 z1 z2 _=>J.kk j q T2 F2 z1 z2 (q0p (by simp)),
  J.twd,fun _=>J.hwd (q0p (by simp)),J.wk,J.ttd,fun _=>J.htd (q0p (by simp)),fun z tt hz _=> ?_,J.tti,fun _=>J.hti (q0p (by simp)),J.tlo,fun _=>J.hlo (q0p (by simp))⟩
 by_cases ez:z=x
 ·subst ez
  refine⟨hx,as ++ [t],⟨by rw[q03,List.map_append];rfl,?_⟩⟩
  show Ents _ _ (if z=z then R.trail z ++ [e] else R.trail z)
  rw[if_pos rfl]
  exact Ents.snoc1 (T.en.tk tk) (tk _ _ ht)
 ·obtain⟨q1,as2,q2⟩:=J.tl z tt hz (q0p (by intro w;cases w;exact ez rfl))
  refine⟨q1,as2,?_⟩
  show TrAt _ _ _ (if z=x then R.trail x ++ [e] else R.trail z)
  rw[if_neg ez]
  exact q2
theorem YP.putL (I:YP exN H0 H y R tw A) {as:List Addr} {t:Addr} {q:Int×Rq} (hl:H A.lo=some (.lst (as.map V.ref))) (L:Losts H as R.lost) (ht:LoAt H t q):YP exN H0 (upd H A.lo (.lst (as.map V.ref ++ [V.ref t]))) y { R with lost:=R.lost ++ [q] } tw A:=by
 have nt:∀ ys,H A.lo ≠ some (.tup ys):=by rw[hl];intro ys z;cases z
 have J:=I.one (o:= .lst (as.map V.ref ++ [V.ref t])) I.tlo (by simp) nt
 have tk:TK H (upd H A.lo (.lst (as.map V.ref ++ [V.ref t]))):=Kp.tk (xs:=[A.lo]) (Kp.put (by simp)) fun b hb=>by simp at hb;subst hb;exact nt
 refine⟨J.kp,J.fr,J.ty,fun _=>J.hy (q0p (by simp)),J.tth,fun _=>J.hth (q0p (by simp)),J.tky,fun _=>J.hky (q0p (by simp)),J.lt,J.lk,fun j b T2 F2 z1 z2 _=>J.dk j b T2 F2 z1 z2 (q0p (by simp)),fun j q T2 F2 z1 z2 _=>J.kk j q T2 F2 z1 z2 (q0p (by simp)),
  J.twd,fun _=>J.hwd (q0p (by simp)),J.wk,J.ttd,fun _=>J.htd (q0p (by simp)),fun x ss hm _=>J.tl x ss hm (q0p (by simp)),J.tti,fun _=>J.hti (q0p (by simp)),J.tlo,fun _=>⟨as ++ [t],by rw[q03,List.map_append];rfl,?_⟩⟩
 obtain⟨b,h1,h2⟩:=ht
 exact Losts.snoc (L.tk tk) ⟨b,tk _ _ h1,tk _ _ h2⟩
theorem YP.putU (I:YP exN H0 H y R tw A) (u:Bool):YP exN H0 (upd H y (.dK (yT A.th R.bound u A.lo A.ky A.wd A.td A.ti))) y { R with up:=u } tw A:=by
 have J:=I.one (o:= .dK (yT A.th R.bound u A.lo A.ky A.wd A.td A.ti)) I.ty (by simp) (by rw[I.hy rfl];intro ys z;cases z)
 exact⟨J.kp,J.fr,J.ty,fun _=>q03,J.tth,fun _=>J.hth (q0p (by simp)),J.tky,fun _=>J.hky (q0p (by simp)),J.lt,J.lk,fun j b T2 F2 z1 z2 _=>J.dk j b T2 F2 z1 z2 (q0p (by simp)),fun j q T2 F2 z1 z2 _=>J.kk j q T2 F2 z1 z2 (q0p (by simp)),
  J.twd,fun _=>J.hwd (q0p (by simp)),J.wk,J.ttd,fun _=>J.htd (q0p (by simp)),fun x ss hm _=>J.tl x ss hm (q0p (by simp)),J.tti,fun _=>J.hti (q0p (by simp)),J.tlo,fun _=>J.hlo (q0p (by simp))⟩
theorem YP.tries (I:YP exN H0 H y R tw A) (t:Tb):YP exN H0 H y { R with tries:=t } tw A:=⟨I.kp,I.fr,I.ty,I.hy,I.tth,I.hth,I.tky,I.hky,I.lt,I.lk,I.dk,I.kk,I.twd,I.hwd,I.wk,I.ttd,I.htd,I.tl,I.tti,I.hti,I.tlo,I.hlo⟩
theorem YP.retag {tg':Addr→Tg} (I:YP exN H0 H y R tw A) (h:∀ b,H b ≠ none→tg' b=A.tg b):YP exN H0 H y R tw { A with tg:=tg' }:=by
 have nn:∀ {b:Addr} {o:HO},H b=some o→tg' b=A.tg b:=fun {b o} e=>h b (by rw[e];simp)
 obtain⟨al,hl,L⟩:=I.hlo rfl
 refine⟨I.kp,fun b o e=>(nn (I.kp.get e nEm)).trans (I.fr b o e),(nn (I.hy rfl)).trans I.ty,I.hy,(nn (I.hth rfl)).trans I.tth,I.hth,(nn (I.hky rfl)).trans I.tky,I.hky,I.lt,I.lk,fun i a T F e1 e2 _=> ?_,fun i q T F e1 e2 _=> ?_,(nn (I.hwd rfl)).trans I.twd,I.hwd,I.wk,(nn (I.htd rfl)).trans I.ttd,I.htd,fun x ss hm _=> ?_,(nn (I.hti rfl)).trans I.tti,I.hti,(nn hl).trans I.tlo,I.hlo⟩
 ·obtain⟨t,h⟩:=I.dk i a T F e1 e2 rfl
  exact⟨(nn h).trans t,h⟩
 ·obtain⟨t,bs,h,K⟩:=I.kk i q T F e1 e2 rfl
  exact⟨(nn h).trans t,bs,h,K⟩
 ·obtain⟨t,as,T⟩:=I.tl x ss hm rfl
  exact⟨(nn T.ls).trans t,as,T⟩
theorem YP.newI (I:YP exN H0 H y R tw A) {p:Addr} (hp:H p=none):YP exN H0 (upd (upd H p (.dK [])) y (.dK (yT A.th R.bound R.up A.lo A.ky A.wd A.td p))) y R [] { A with tg:=fun b=>if b=p then .tries else A.tg b,ti:=p }:=by
 have J0:=I.retag (tg':=fun b=>if b=p then .tries else A.tg b) fun b hb=>if_neg fun z=>hb (by rw[z];exact hp)
 have J1:=J0.same (Kp.new (o:= .dK []) hp)
 have ny:y ≠ p:=fun z=>by rw[← z,I.hy rfl]at hp;cases hp
 have J:=J1.one (o:= .dK (yT A.th R.bound R.up A.lo A.ky A.wd A.td p)) J1.ty (by simp) (by rw[J1.hy rfl];intro ys z;cases z)
 exact⟨J.kp,J.fr,J.ty,fun _=>q03,J.tth,fun _=>J.hth (q0p (by simp)),J.tky,fun _=>J.hky (q0p (by simp)),J.lt,J.lk,fun j b T2 F2 z1 z2 _=>J.dk j b T2 F2 z1 z2 (q0p (by simp)),fun j q T2 F2 z1 z2 _=>J.kk j q T2 F2 z1 z2 (q0p (by simp)),
  J.twd,fun _=>J.hwd (q0p (by simp)),J.wk,J.ttd,fun _=>J.htd (q0p (by simp)),fun x ss hm _=>J.tl x ss hm (q0p (by simp)),if_pos rfl,fun _=>by rw[q0b fun z=>ny z.symm];exact q03,J.tlo,fun _=>J.hlo (q0p (by simp))⟩
theorem YP.newW (I:YP exN H0 H y R tw A) {x:Str} {ss:List Stp} {l p:Addr} {as:List Addr} (hw:R.wk x=none) (hl:H0 l=some (.lst (as.map V.ref))) (S:Stps H0 as ss) (hp:(upd H A.wd (.dK (putK (wkT R.works A.wa) (Sum.inr x:Key) (.ref l)))) p=none) :
  YP exN H0 (upd (upd (upd H A.wd (.dK (putK (wkT R.works A.wa) (Sum.inr x:Key) (.ref l)))) p (.lst [])) A.td (.dK (putK (wkT R.works A.ta) (Sum.inr x:Key) (.ref p)))) y { R with works:=R.works ++ [(x,ss)],trail:=fun z=>if z=x then [] else R.trail z } tw
   { A with tg:=fun b=>if b=p then .trail x else A.tg b,wa:=fun z=>if z=x then l else A.wa z,ta:=fun z=>if z=x then p else A.ta z }:=by
 obtain⟨np,hp0⟩:=q1u hp
 have J0:=I.retag (tg':=fun b=>if b=p then .trail x else A.tg b) fun b hb=>if_neg fun z=>hb (by rw[z];exact hp0)
 have k1:Kp [A.wd,A.td] H (upd (upd (upd H A.wd (.dK (putK (wkT R.works A.wa) (Sum.inr x:Key) (.ref l)))) p (.lst [])) A.td (.dK (putK (wkT R.works A.ta) (Sum.inr x:Key) (.ref p)))):=((Kp.put (List.Mem.head _)).trans (Kp.new hp)).trans (Kp.put (List.Mem.tail _ (List.Mem.head _)))
 have ntd:A.td ≠ p:=fun z=>by rw[← z,I.htd rfl]at hp0;cases hp0
 have nwt:A.wd ≠ A.td:=fun z=>by have h1:=I.twd;rw[z,I.ttd]at h1;cases h1
 have J:YP (fun t=>decide (t= .works∨t= .trails)) H0 _ y R tw { A with tg:=fun b=>if b=p then .trail x else A.tg b }:=J0.step k1 fun b hb=>by
  simp at hb
  rcases hb with rfl | rfl
  ·refine⟨?_,?_,by rw[I.hwd rfl];intro ys z;cases z⟩
   ·rw[J0.twd];exact decide_eq_true (.inl rfl)
   ·rw[J0.twd];simp
  ·refine⟨?_,?_,by rw[I.htd rfl];intro ys z;cases z⟩
   ·rw[J0.ttd];exact decide_eq_true (.inr rfl)
   ·rw[J0.ttd];simp
 have f:∀ {t:Tg},t ≠ .works→t ≠ .trails→decide (t= .works∨t= .trails)=false:=fun h1 h2=>decide_eq_false (by intro z;rcases z with z | z;exact h1 z;exact h2 z)
 refine⟨J.kp,J.fr,J.ty,fun _=>J.hy (f (by simp) (by simp)),J.tth,fun _=>J.hth (f (by simp) (by simp)),J.tky,fun _=>J.hky (f (by simp) (by simp)),J.lt,J.lk,fun j b T2 F2 z1 z2 _=>J.dk j b T2 F2 z1 z2 (f (by simp) (by simp)),fun j q T2 F2 z1 z2 _=>J.kk j q T2 F2 z1 z2 (f (by simp) (by simp)),
  J.twd,fun _=> ?_,fun z tt hz=> ?_,J.ttd,fun _=> ?_,fun z tt hz _=> ?_,J.tti,fun _=>J.hti (f (by simp) (by simp)),J.tlo,fun _=>J.hlo (f (by simp) (by simp))⟩
 ·show (upd (upd (upd H A.wd _) p _) A.td _) A.wd=_
  rw[q0b nwt,q0b (fun z=>by rw[← z,I.hwd rfl]at hp0;cases hp0),q03,q6u _ A.wa ss l hw]
 ·have hz:(z,tt) ∈ R.works ++ [(x,ss)]:=hz
  rw[List.mem_append]at hz
  rcases hz with q | q
  ·have nz:z ≠ x:=fun w=>q2x hw _ q w
   obtain⟨as2,q1,q2⟩:=I.wk z tt q
   exact⟨as2,by show H0 (if z=x then l else A.wa z)=_;rw[if_neg nz];exact q1,q2⟩
  ·simp at q
   obtain⟨rfl,rfl⟩:=q
   exact⟨as,by show H0 (if z=z then l else A.wa z)=_;rw[if_pos rfl];exact hl,S⟩
 ·show (upd (upd (upd H A.wd _) p _) A.td _) A.td=_
  rw[q03,q6u _ A.ta ss p hw]
 ·have hz:(z,tt) ∈ R.works ++ [(x,ss)]:=hz
  rw[List.mem_append]at hz
  rcases hz with q | q
  ·have nz:z ≠ x:=fun w=>q2x hw _ q w
   obtain⟨q1,as2,q2⟩:=J.tl z tt q (f (by simp) (by simp))
   refine⟨?_,as2,?_⟩
   ·show (if (if z=x then p else A.ta z)=p then _ else A.tg (if z=x then p else A.ta z))=_
    rw[if_neg nz]
    exact q1
   ·show TrAt _ (if z=x then p else A.ta z) as2 (if z=x then [] else R.trail z)
    rw[if_neg nz,if_neg nz]
    exact q2
  ·simp at q
   obtain⟨rfl,rfl⟩:=q
   refine⟨?_,[],?_⟩
   ·show (if (if z=z then p else A.ta z)=p then _ else A.tg (if z=z then p else A.ta z))=_
    rw[if_pos rfl,if_pos rfl]
   ·show TrAt _ (if z=z then p else A.ta z) [] (if z=z then [] else R.trail z)
    rw[if_pos rfl,if_pos rfl]
    refine⟨?_,⟨rfl,fun i a e h=>by simp at h⟩⟩
    rw[q0b fun w=>ntd w.symm]
    exact q03
end
end K07
end
section
namespace K07
open PySem L2
section
variable {P:Program} {w:World} {K:PySem.W.Frag} {mg:Str→Option Value} {base:Heap}
theorem eqS {K:PySem.W.Frag} {H:Hp} {n:Nat} (s:Str):EqH K H n (.str s) (.str s) true:=by
 have:=EqH.flat (K:=K) (H:=H) (n:=n) (x:= .str s) (y:= .str s) rfl rfl
 have e:eqV (.str s) (.str s)=true:=by show (s == s)=true;simp
 rw[e]at this
 exact this
theorem eqI {K:PySem.W.Frag} {H:Hp} {n:Nat} (i:Int):EqH K H n (.int i) (.int i) true:=by
 have:=EqH.flat (K:=K) (H:=H) (n:=n) (x:= .int i) (y:= .int i) rfl rfl
 have e:eqV (.int i) (.int i)=true:=by show (i == i)=true;simp
 rw[e]at this
 exact this
theorem q54 {K:PySem.W.Frag} {H:Hp} {n:Nat} {a b:Addr} {xs ys:List V} (ha:H a=some (.tup xs)) (hb:H b=some (.tup ys)) (hl:xs.length=ys.length) (h:∀ (j:Nat) x y,xs[j]? = some x→ys[j]? = some y→EqH K H n x y true):EqH K H (n + 1) (.ref a) (.ref b) true:=by
 by_cases e:a=b
 ·subst e
  exact .same a
 ·have:=EqH.tup (K:=K) (n:=n) (e:=fun _=>true) e (SqT.of ha) (SqT.of hb) h
  rw[q3j,hl]at this
  simpa using this
theorem qiv {K:PySem.W.Frag} {H:Hp} {n:Nat} {a b:Addr} {xs ys:List V} (ha:H a=some (.lst xs)) (hb:H b=some (.lst ys)) (hl:xs.length=ys.length) (h:∀ (j:Nat) x y,xs[j]? = some x→ys[j]? = some y→EqH K H n x y true):EqH K H (n + 1) (.ref a) (.ref b) true:=by
 by_cases e:a=b
 ·subst e
  exact .same a
 ·have:=EqH.lst (K:=K) (n:=n) (e:=fun _=>true) e (SqL.of ha) (SqL.of hb) hl h
  rw[q3j]at this
  exact this
theorem q36 {K:PySem.W.Frag} {H:Hp} {n:Nat} {xs:List V} (h:∀ x ∈ xs,(∃ s,x= .str s)∨∃ i,x= .int i):∀ (j:Nat) x y,xs[j]? = some x→xs[j]? = some y→EqH K H n x y true:=fun j x y e1 e2=>by
 rw[e1]at e2
 cases e2
 rcases h x (List.mem_of_getElem? e1) with ⟨s,rfl⟩ | ⟨i,rfl⟩
 ·exact eqS s
 ·exact eqI i
theorem qjw {K:PySem.W.Frag} {H:Hp} {n:Nat} {as bs:List Addr} {t:List En} (h1:Ents H as t) (h2:Ents H bs t):∀ (j:Nat) x y,(as.map V.ref)[j]? = some x→(bs.map V.ref)[j]? = some y→EqH K H (n + 1) x y true:=fun j x y e1 e2=>by
 rw[List.getElem?_map]at e1 e2
 cases ea:as[j]? with
 | none=>rw[ea]at e1;cases e1
 | some a =>
  cases eb:bs[j]? with
  | none=>rw[eb]at e2;cases e2
  | some b =>
   rw[ea]at e1
   rw[eb]at e2
   obtain rfl:V.ref a=x:=Option.some.inj e1
   obtain rfl:V.ref b=y:=Option.some.inj e2
   obtain⟨e,et,ha⟩:=h1.get ea
   have hb:=h2.at_ j b e eb et
   exact q54 ha hb rfl (q36 fun x hx=>by
    unfold enV at hx
    simp at hx
    rcases hx with z | z
    ·exact .inl ⟨_,z⟩
    ·exact .inr ⟨_,z⟩)
theorem qjx {K:PySem.W.Frag} {H:Hp} {n:Nat} {as bs:List Addr} {t:List Stp} (h1:Stps H as t) (h2:Stps H bs t):∀ (j:Nat) x y,(as.map V.ref)[j]? = some x→(bs.map V.ref)[j]? = some y→EqH K H (n + 1) x y true:=fun j x y e1 e2=>by
 rw[List.getElem?_map]at e1 e2
 cases ea:as[j]? with
 | none=>rw[ea]at e1;cases e1
 | some a =>
  cases eb:bs[j]? with
  | none=>rw[eb]at e2;cases e2
  | some b =>
   rw[ea]at e1
   rw[eb]at e2
   obtain rfl:V.ref a=x:=Option.some.inj e1
   obtain rfl:V.ref b=y:=Option.some.inj e2
   have hj:j < t.length:=by rw[← h1.len];exact(List.getElem?_eq_some_iff.mp ea).1
   have et:=List.getElem?_eq_getElem hj
   exact q54 (h1.at_ j a _ ea et) (h2.at_ j b _ eb et) rfl (q36 fun x hx=>by
    unfold Stp.vs at hx
    simp at hx
    rcases hx with z | z | z
    ·exact .inr ⟨_,z⟩
    ·exact .inl ⟨_,z⟩
    ·exact .inr ⟨_,z⟩)
theorem qju {K:PySem.W.Frag} {H:Hp} {n:Nat} {a b:Addr} {d:Deed} (h1:q1y H a d) (h2:q1y H b d):EqH K H (n + 3) (.ref a) (.ref b) true:=by
 cases d with
 | start x ss =>
  obtain⟨l,as,a1,a2,a3,_⟩:=h1
  obtain⟨l',as',b1,b2,b3,_⟩:=h2
  refine q54 a1 b1 rfl fun j u v e1 e2=> ?_
  match j,e1,e2 with
  | 0,e1,e2=>simp at e1 e2;subst e1 e2;exact eqS _
  | 1,e1,e2=>simp at e1 e2;subst e1 e2;exact eqS _
  | 2,e1,e2=>simp at e1 e2;subst e1 e2;exact qiv a2 b2 (by rw[List.length_map,List.length_map,a3.len,b3.len]) (qjx a3 b3)
 | go x l=>exact q54 h1 h2 rfl (q36 fun x hx=>by simp at hx;rcases hx with z | z | z <;> exact .inl ⟨_,z⟩)
 | late i=>exact q54 h1 h2 rfl (q36 fun x hx=>by simp at hx;rcases hx with z | z;exact .inl ⟨_,z⟩;exact .inr ⟨_,z⟩)
 | fill d x m=>exact q54 h1 h2 rfl (q36 fun x hx=>by simp at hx;rcases hx with z | z | z | z;exact .inl ⟨_,z⟩;exact .inr ⟨_,z⟩;exact .inl ⟨_,z⟩;exact .inr ⟨_,z⟩)
 | stop=>exact q54 h1 h2 rfl (q36 fun x hx=>by simp at hx;exact .inl ⟨_,hx⟩)
 | wake=>exact q54 h1 h2 rfl (q36 fun x hx=>by simp at hx;exact .inl ⟨_,hx⟩)
theorem qil {K:PySem.W.Frag} {H:Hp} {n:Nat} {as bs:List Addr} {ds:List Deed} (h1:Deeds H as ds) (h2:Deeds H bs ds):∀ (j:Nat) x y,(as.map V.ref)[j]? = some x→(bs.map V.ref)[j]? = some y→EqH K H (n + 3) x y true:=fun j x y e1 e2=>by
 rw[List.getElem?_map]at e1 e2
 cases ea:as[j]? with
 | none=>rw[ea]at e1;cases e1
 | some a =>
  cases eb:bs[j]? with
  | none=>rw[eb]at e2;cases e2
  | some b =>
   rw[ea]at e1
   rw[eb]at e2
   obtain rfl:V.ref a=x:=Option.some.inj e1
   obtain rfl:V.ref b=y:=Option.some.inj e2
   have hj:j < ds.length:=by rw[← h1.len];exact(List.getElem?_eq_some_iff.mp ea).1
   have et:=List.getElem?_eq_getElem hj
   exact qju (h1.at_ j a _ ea et) (h2.at_ j b _ eb et)
theorem qgj {K:PySem.W.Frag} {H:Hp} {p q:Addr} {a b:Str} {v v':V} (hp:H p=some (.tup [.str a,v])) (hq:H q=some (.tup [.str b,v'])) (fv:q7k v=true) (fv':q7k v'=true) {Q:VK} (h:Q (.bl (eqV (.str a) (.str b) && eqV v v')) H):rEqT K false (.ref p) (.ref q) H Q:=by
 refine⟨p,q,_,_,(fun j=>if j=0 then eqV (.str a) (.str b) else eqV v v'),rfl,rfl,SqT.of hp,SqT.of hq,fun j x y e1 e2=> ?_,?_⟩
 ·match j,e1,e2 with
  | 0,e1,e2=>cases e1;cases e2;exact .flat rfl rfl
  | 1,e1,e2=>cases e1;cases e2;exact .flat fv fv'
  | j + 2,e1,e2=>simp at e1
 ·show Q (.bl ((eqV (.str a) (.str b) && (eqV v v' && true)) && true)) H
  rw[Bool.and_true,Bool.and_true]
  exact h
theorem q4y.same {H H':Hp} {bs:List Addr} {rows:List (Str×List En)} (h:q4y H bs rows) (k:Kp [] H H'):q4y H' bs rows:=⟨h.1,fun j b row e1 e2=>let ⟨l,as,h1,h2⟩:=h.2 j b row e1 e2;⟨l,as,k.get h1 nEm,h2.same k⟩⟩
theorem qkf {K:PySem.W.Frag} {H:Hp} {n:Nat} {as bs:List Addr} {t:List (Str×Int)} (h1:q2j H as t) (h2:q2j H bs t):∀ (j:Nat) x y,(as.map V.ref)[j]? = some x→(bs.map V.ref)[j]? = some y→EqH K H (n + 1) x y true:=fun j x y e1 e2=>by
 rw[List.getElem?_map]at e1 e2
 cases ea:as[j]? with
 | none=>rw[ea]at e1;cases e1
 | some a =>
  cases eb:bs[j]? with
  | none=>rw[eb]at e2;cases e2
  | some b =>
   rw[ea]at e1
   rw[eb]at e2
   obtain rfl:V.ref a=x:=Option.some.inj e1
   obtain rfl:V.ref b=y:=Option.some.inj e2
   have hj:j < t.length:=by rw[← h1.1];exact(List.getElem?_eq_some_iff.mp ea).1
   have et:=List.getElem?_eq_getElem hj
   exact q54 (h1.2 j a _ ea et) (h2.2 j b _ eb et) rfl (q36 fun x hx=>by
    simp at hx
    rcases hx with z | z
    ·exact .inl ⟨_,z⟩
    ·exact .inr ⟨_,z⟩)
theorem q9d {K:PySem.W.Frag} {H:Hp} {n:Nat} {α:Type} {Ra Rb:Addr→α→Prop} {as bs:List Addr} {t:List α} (la:as.length=t.length) (ha:∀ (j:Nat) a x,as[j]? = some a→t[j]? = some x→Ra a x) (hb:∀ (j:Nat) b x,bs[j]? = some b→t[j]? = some x→Rb b x) (h:∀ a b x,x ∈ t→Ra a x→Rb b x→EqH K H n (.ref a) (.ref b) true) :
  ∀ (j:Nat) x y,(as.map V.ref)[j]? = some x→(bs.map V.ref)[j]? = some y→EqH K H n x y true:=fun j x y e1 e2=>by
 rw[List.getElem?_map]at e1 e2
 cases ea:as[j]? with
 | none=>rw[ea]at e1;cases e1
 | some a =>
  cases eb:bs[j]? with
  | none=>rw[eb]at e2;cases e2
  | some b =>
   rw[ea]at e1
   rw[eb]at e2
   obtain rfl:V.ref a=x:=Option.some.inj e1
   obtain rfl:V.ref b=y:=Option.some.inj e2
   have hj:j < t.length:=by rw[← la];exact(List.getElem?_eq_some_iff.mp ea).1
   have et:=List.getElem?_eq_getElem hj
   exact h a b _ (List.getElem_mem hj) (ha j a _ ea et) (hb j b _ eb et)
theorem eqKs {K:PySem.W.Frag} {H:Hp} {n:Nat} {qs qs':List Addr} {Fs:List Fb} (kw:∀ F ∈ Fs,q45 F) (h1:q3e H qs Fs) (h2:q3e H qs' Fs):∀ (j:Nat) x y,(qs.map V.ref)[j]? = some x→(qs'.map V.ref)[j]? = some y→EqH K H (n + 3) x y true :=
 q9d h1.1 h1.2 h2.2 fun a b F hF ⟨bs,x1,x2⟩ ⟨bs',y1,y2⟩=>by
  refine qiv x1 y1 (by rw[List.length_map,List.length_map,x2.1,y2.1]) (q9d x2.1 x2.2 y2.2 fun a b kv hkv ⟨c,z1,z2⟩ ⟨c',w1,w2⟩=> ?_)
  obtain⟨x,m,y,rfl⟩:=kw F hF kv hkv
  refine q54 z1 w1 rfl fun j u v e1 e2=> ?_
  match j,e1,e2 with
  | 0,e1,e2 =>
   cases e1;cases e2
   refine q54 z2 w2 rfl (q36 fun x hx=> ?_)
   have hx:x ∈ [V.str _,V.int _]:=hx
   simp at hx
   rcases hx with z | z
   ·exact .inl ⟨_,z⟩
   ·exact .inr ⟨_,z⟩
  | 1,e1,e2=>cases e1;cases e2;exact eqS _
  | j + 2,e1,e2=>simp at e1
theorem eqTr {K:PySem.W.Frag} {H:Hp} {n:Nat} {bs bs':List Addr} {rows:List (Str×List En)} (h1:q4y H bs rows) (h2:q4y H bs' rows):∀ (j:Nat) x y,(bs.map V.ref)[j]? = some x→(bs'.map V.ref)[j]? = some y→EqH K H (n + 3) x y true :=
 q9d h1.1 h1.2 h2.2 fun a b row _ ⟨l,as,x1,x2⟩ ⟨l',as',y1,y2⟩=>by
  refine q54 x1 y1 rfl fun j u v e1 e2=> ?_
  match j,e1,e2 with
  | 0,e1,e2=>cases e1;cases e2;exact eqS _
  | 1,e1,e2=>cases e1;cases e2;exact qiv x2.ls y2.ls (by rw[List.length_map,List.length_map,x2.en.len,y2.en.len]) (qjw x2.en y2.en)
  | j + 2,e1,e2=>simp at e1
theorem qk1 {f:St→Hp→Prop} {r:VK} {b c:St→Hp→Prop} {σ:St} {H:Hp} (h:f σ H):Ends.nx ⟨f,r,b,c⟩ σ H:=h
theorem q1p.snoc {H:Hp} {bs:List Addr} {F:Fb} {b c:Addr} {kv:List Key×V} (h:q1p H bs F) (h1:H b=some (.tup [.ref c,kv.2])) (h2:H c=some (.tup (kv.1.map kV))):q1p H (bs ++ [b]) (F ++ [kv]):=by
 refine⟨by simp[h.1],fun i d kv' e1 e2=> ?_⟩
 by_cases hi:i < bs.length
 ·rw[List.getElem?_append_left hi]at e1
  rw[List.getElem?_append_left (by rw[← h.1];exact hi)]at e2
  exact h.2 i d kv' e1 e2
 ·have e:i=bs.length:=by
   have:=(List.getElem?_eq_some_iff.mp e1).1
   simp at this
   omega
  subst e
  rw[List.getElem?_append_right (Nat.le_refl _)]at e1
  rw[h.1,List.getElem?_append_right (Nat.le_refl _)]at e2
  simp at e1 e2
  subst e1 e2
  exact⟨c,h1,h2⟩
theorem q1p.set {H:Hp} {bs:List Addr} {F:Fb} {b c:Addr} {kv:List Key×V} {i:Nat} (h:q1p H bs F) (h1:H b=some (.tup [.ref c,kv.2])) (h2:H c=some (.tup (kv.1.map kV))):q1p H (bs.set i b) (F.set i kv):=by
 refine⟨by rw[List.length_set,List.length_set,h.1],fun j d kv' e1 e2=> ?_⟩
 rcases q4d e1 with ⟨rfl,z⟩ | ⟨nj,z⟩
 ·rcases q4d e2 with ⟨_,z'⟩ | ⟨n',_⟩
  ·subst z z'
   exact⟨c,h1,h2⟩
  ·exact absurd rfl n'
 ·rcases q4d e2 with ⟨z',_⟩ | ⟨_,z'⟩
  ·exact absurd z' nj
  ·exact h.2 j d kv' z z'
theorem qij {F:Fb} {k:List Key} {i:Nat} {v0:V} (v:V) (nk:(F.map (·.1)).Nodup) (h:F[i]? = some (k,v0)):putK F k v=F.set i (k,v):=by
 have hv:valV F k=some v0:=by
  unfold valV
  rw[q2f nk (List.mem_of_getElem? h)]
  rfl
 rw[q5p v hv]
 refine List.ext_getElem? fun j=> ?_
 obtain⟨hi,ei⟩:=List.getElem?_eq_some_iff.mp h
 rw[List.getElem?_map,List.getElem?_set]
 by_cases e:i=j
 ·subst e
  rw[if_pos rfl,if_pos hi,h]
  show some (if k=k then (k,v) else (k,v0))=_
  rw[if_pos rfl]
 ·rw[if_neg e]
  cases ej:F[j]? with
  | none=>rfl
  | some kv =>
   obtain⟨hj,ej'⟩:=List.getElem?_eq_some_iff.mp ej
   show some (if kv.1=k then (kv.1,v) else kv)=some kv
   have l1:i < (F.map (·.1)).length:=by rw[List.length_map];exact hi
   have l2:j < (F.map (·.1)).length:=by rw[List.length_map];exact hj
   rw[if_neg fun z=>e ((List.getElem_inj nk).mp (show (F.map (·.1))[i]=(F.map (·.1))[j] by rw[List.getElem_map,List.getElem_map,ei,ej',z]))]
theorem qka {F:Fb} {k:List Key} {i:Nat} {v:V} (nk:(F.map (·.1)).Nodup) (h:F[i]? = some (k,v)):valV F k=some v:=by
 unfold valV
 rw[q2f nk (List.mem_of_getElem? h)]
 rfl
def qe3:Sp:=fun vs H Q _=>∃ (q t:Addr) (bs:List Addr) (F:Fb) (w:Str) (st:Int),vs=[.ref q,.ref t]∧H q=some (.lst (bs.map V.ref))∧q1p H bs F∧q45 F∧F.length≤800∧H t=some (.tup [.str w,.int st])∧(∀ (i:Nat) v,F[i]? = some (kk w st,v)→Q (.int i) H)∧(valV F (kk w st)=none→Q (.int (-1)) H)
theorem q9n:FnScope ["_law_rows","_law_key","_law_k"] ["_law_rows","_law_key"] (q06 q6o):=⟨rfl,rfl,rfl,by decide +kernel,rfl,by decide +kernel,by decide +kernel⟩
theorem qg9 {f:Addr} {fd:FuncData} (Fn:Fun K "_law_key_at" "_law_key_at" q6o f fd) (B:Blt mg):FnOk P w K mg base CX0 1 f fd ["_law_rows","_law_key"] qe3:=by
 refine Fn.ok q9n (fun vs H Q E h=> ?_) (fun cdv A outer s H vs Q E hr h=> ?_)
 ·obtain⟨q,t,bs,F,w,st,rfl,_⟩:=h
  rfl
 ·obtain⟨q,t,bs,F,w',st,rfl,hq,KR,kw,lF,ht,k1,k2⟩:=h
  have nd:=q9n.nd
  have hu64:=hr.units
  have lb:bs.length=F.length:=KR.1
  refine⟨_,(q01 (q2e PassesOwn.never rfl (q2h rfl B.range (q00 (q0e q0m rfl B.len PySem.boot_len (q00 (pv 0) q05)) q05)) (q0x (i:=2) nd rfl (Or.inl rfl))
   (q07 (q0q (q0f (q9p hu64) (q0k q0h (q0k q13 (pv 0) (pv 2) (fun _ _=>rfl)) q02 (fun _ _=>rfl)) (pv 1) (q0i _))
   (q07 (q0a (pv 2)))
   q0c)))
   (q07 (q0a (qgb qa6 q02)))),?_⟩
  refine⟨_,rfl,q,_,rfl,.inl (SqL.of hq),(bs.length:Int),by rw[List.length_map],by omega,by omega,?_⟩
  refine q26 (lo:=0) (n:=((bs.length:Int)).toNat) (fun i σ H2=>(∃ v2:Option V,σ=[some (.ref q),some (.ref t),v2])∧H2=H∧∀ j kv,j < i→F[j]? = some kv→kv.1 ≠ kk w' st) ⟨⟨none,rfl⟩,rfl,fun j kv z=>absurd z (Nat.not_lt_zero _)⟩ ?_ ?_
  ·rintro i σ H2 hi ⟨⟨v2,rfl⟩,rfl,no⟩
   have hi:i < bs.length:=by omega
   refine qbs fun kk' ek=> ?_
   obtain rfl:kk'=(i:Int):=by omega
   clear ek
   have eb:bs[i]? = some bs[i]:=List.getElem?_eq_getElem hi
   have hiF:i < F.length:=by omega
   have eF:F[i]? = some F[i]:=List.getElem?_eq_getElem hiF
   obtain⟨c,h1,h2⟩:=KR.2 i _ _ eb eF
   obtain⟨x,n,y,e⟩:=kw _ (List.getElem_mem hiF)
   rw[e]at h1 h2 eF
   have h2:H2 c=some (.tup [.str x,.int n]):=h2
   refine⟨_,rfl,_,rfl,q,_,_,_,rfl,rfl,SqL.of hq,q08 (j:=i) (by rw[List.getElem?_map,eb];rfl),bs[i],_,_,_,rfl,rfl,SqT.of h1,q08 (j:=0) rfl,_,rfl,qgj h2 ht rfl rfl ⟨_,rfl,?_⟩⟩
   by_cases hc:x=w'∧n=st
   ·obtain⟨rfl,rfl⟩:=hc
    rw[show (eqV (.str x) (.str x) && eqV (.int n) (.int n))=true by show ((x == x) && (n == n))=true;simp]
    exact iteT ⟨_,rfl,k1 i _ eF⟩
   ·rw[show (eqV (.str x) (.str w') && eqV (.int n) (.int st))=false by
     show ((x == w') && (n == st))=false
     by_cases c1:x=w'
     ·have c2:¬ n=st:=fun z=>hc ⟨c1,z⟩
      simp[c2]
     ·simp[c1]]
    refine iteF ⟨⟨_,rfl⟩,rfl,fun j kv hj ej=> ?_⟩
    by_cases ej':j=i
    ·subst ej'
     rw[eF]at ej
     cases ej
     intro z
     have z1:=(List.cons.inj z).1
     have z2:=(List.cons.inj (List.cons.inj z).2).1
     exact hc ⟨by injection z1,by injection z2⟩
    ·exact no j kv (by omega) ej
  ·rintro σ H2 ⟨⟨v2,rfl⟩,rfl,no⟩
   refine⟨_,rfl,k2 ?_⟩
   cases e:valV F (kk w' st) with
   | none=>rfl
   | some v =>
    obtain⟨j,ej⟩:=List.mem_iff_getElem?.mp (qgc e)
    have hj:=(List.getElem?_eq_some_iff.mp ej).1
    exact absurd rfl (no j _ (by omega) ej)
structure DIn (H0 H:Hp) (y rq:Addr) (R:Rn) (tw:Tb) (A:YA) (d:Nat) (q:Rq) (T:Tb) (F:Fb):Prop where
 I:YP exN H0 H y R tw A
 hrq:H rq=some (.tup q.vs)
 e:R.desks[d]? = some (T,F)
 w:q.word= "do" ∨ q.word= "undo"
 it:q1r T
 lt:T.length≤800
 lf:F.length≤800
 kw:q45 F
 nk:(F.map (·.1)).Nodup
 di:valV F (kk q.w q.st)=some (.str "did")→valV T (Sum.inr q.x:Key) ≠ none
def q7d:Sp:=fun vs H Q _=>∃ (y rq:Addr) (d:Nat) (H0:Hp) (R:Rn) (tw:Tb) (A:YA) (q:Rq) (T:Tb) (F:Fb),vs=[.ref y,.int d,.ref rq]∧DIn H0 H y rq R tw A d q T F∧∀ H',YP exN H0 H' y (q0r R d q).2 tw A→Q (.str (q0r R d q).1) H'
theorem q7p:FnScope ["_law_yard","_law_desk","_law_request","_law_word","_law_work","_law_step","_law_thing","_law_many","_law_rows","_law_things","_law_spot","_law_told"] ["_law_yard","_law_desk","_law_request"] (q06 q4u):=⟨rfl,rfl,rfl,by decide +kernel,rfl,by decide +kernel,by decide +kernel⟩
theorem qe8 {f:Addr} {fd:FuncData} (Fn:Fun K "_law_at_desk" "_law_at_desk" q4u f fd) (B:Blt mg) (Dlaw_key_at:Df P w K mg base CX0 1 "_law_key_at" ["_law_rows","_law_key"] qe3):FnOk P w K mg base CX0 2 f fd ["_law_yard","_law_desk","_law_request"] q7d:=by
 refine Fn.ok q7p (fun vs H Q E h=> ?_) (fun cdv A' outer s H vs Q E hr h=> ?_)
 ·obtain⟨y,rq,d,H0,R,tw,A,q,T,F,rfl,_⟩:=h
  rfl
 ·obtain⟨y,rq,d,H0,R,tw,A,q,T,F,rfl,D,k⟩:=h
  have nd:=q7p.nd
  have hu:=q3f hr
  have hd:d < R.desks.length:=(List.getElem?_eq_some_iff.mp D.e).1
  have hdk:d < A.kas.length:=by rw[D.I.lk];exact hd
  have hdt:d < A.tas.length:=by rw[D.I.lt];exact hd
  have ek:A.kas[d]? = some A.kas[d]:=List.getElem?_eq_getElem hdk
  have et:A.tas[d]? = some A.tas[d]:=List.getElem?_eq_getElem hdt
  generalize A.kas[d]=kq at ek
  generalize A.tas[d]=ca at et
  have ekV:(A.kas.map V.ref)[d]? = some (V.ref kq):=by rw[List.getElem?_map,ek];rfl
  have etV:(A.tas.map V.ref)[d]? = some (V.ref ca):=by rw[List.getElem?_map,et];rfl
  have ea:q0r R d q=((q21 T F q).1,setD R d (q21 T F q).2):=by unfold q0r;rw[Int.toNat_natCast,D.e]
  rw[ea]at k
  have eset:setD R d (T,F)=R:=by
   obtain⟨h1,h2⟩:=List.getElem?_eq_some_iff.mp D.e
   unfold setD
   rw[← h2,List.set_getElem_self]
  have hrq:H rq=some (.tup [.str q.word,.str q.w,.int q.st,.str q.x,.int q.n]):=D.hrq
  have I:=D.I
  obtain⟨_,hca⟩:=I.dk d ca T F et D.e rfl
  obtain⟨_,bs,hkq,KR⟩:=I.kk d kq T F ek D.e rfl
  have lb:bs.length=F.length:=KR.1
  refine⟨_,(q01 (q9k (pv 2) (qal rfl (q1z (q0x (i:=3) nd rfl (Or.inl rfl)) (q1z (q0x (i:=4) nd rfl (Or.inl rfl)) (q1z (q0x (i:=5) nd rfl (Or.inl rfl)) (q1z (q0x (i:=6) nd rfl (Or.inl rfl)) (q1z (q0x (i:=7) nd rfl (Or.inl rfl)) q7h)))))))
   (q01 (q0s (i:=8) nd rfl (Or.inl rfl) (q0k q13 (q0u hu (pv 0) q09 (fun _ _=>rfl)) (pv 1) (fun _ _=>rfl)))
   (q01 (q0s (i:=9) nd rfl (Or.inl rfl) (q0k q13 (q0u hu (pv 0) q09 (fun _ _=>rfl)) (pv 1) (fun _ _=>rfl)))
   (q01 (q0s (i:=10) nd rfl (Or.inl rfl) (q18 Dlaw_key_at (hr.mono (by decide)) q0z (q00 (pv 8) (q00 (q19 (q00 (pv 4) (q00 (pv 5) q05))) q05))))
   (q01 (q0q (q0f q1i (pv 3) q09 (q0i _))
   (q01 (q0q (q0f q72 (pv 10) q02 (q0i _))
   (q07 (q0a (q0k q13 (q1t (q00 q09 (q00 q09 q05))) (q2b qc8 rfl B.int_ PyProof.Rows.boot_int (q00 (q2z q1i (q0k q0h (q0k q13 (pv 8) (pv 10) (fun _ _=>rfl)) q02 (fun _ _=>rfl)) q09 (q0i _)) q05)) (fun _ _=>rfl))))
   q0c)
   (q01 (q0s (i:=11) nd rfl (Or.inl rfl) q09)
   (q01 (q0q (q0f q72 (q3q hu (pv 9) (pv 6) q02 ⟨rfl,rfl,rfl,rfl⟩) (pv 7) (q0i _))
   (q01 (q1e hu (pv 9) (pv 6) (q0l q4j (q3q hu (pv 9) (pv 6) q02 ⟨rfl,rfl,rfl,rfl⟩) (pv 7)) rfl)
   (q07 (q0s (i:=11) nd rfl (Or.inl rfl) q09)))
   q0c)
   (q01 (q2a (q52 PySem.F.plainAttrs_list PySem.F.slot_list_append PySem.F.type_list_append q1o (pv 8) (q00 (q19 (q00 (q19 (q00 (pv 4) (q00 (pv 5) q05))) (q00 (pv 11) q05))) q05)))
   (q07 (q0a (pv 11)))))))
   q0c)
   (q01 (q0q (q0f q5n (pv 10) q02 (q0i _))
   (q07 (q2a (q52 PySem.F.plainAttrs_list PySem.F.slot_list_append PySem.F.type_list_append q1o (pv 8) (q00 (q19 (q00 (q19 (q00 (pv 4) (q00 (pv 5) q05))) (q00 q09 q05))) q05))))
   (q01 (q0q (q0f q1i (q0k q0h (q0k q13 (pv 8) (pv 10) (fun _ _=>rfl)) q02 (fun _ _=>rfl)) q09 (q0i _))
   (q07 (q1e hu (pv 9) (pv 6) (q0l q24 (q0u hu (pv 9) (pv 6) (fun _ _=>rfl)) (pv 7)) rfl))
   q0c)
   (q07 (q9k (q19 (q00 (q19 (q00 (pv 4) (q00 (pv 5) q05))) (q00 q09 q05))) (qjo (pv 8) (pv 10) qfo)))))
   (q07 (q0a q09)))))))),?_⟩
  refine⟨_,rfl,rq,_,rfl,SqT.of hrq,rfl,_,_,rfl,_,_,rfl,_,_,rfl,_,_,rfl,_,_,rfl,rfl,?_⟩
  refine⟨_,rfl,y,_,rfl,dgY (I.hy rfl) (qea ..),_,rfl,A.ky,_,_,_,rfl,rfl,SqL.of (I.hky rfl),q08 (j:=d) ekV,?_⟩
  refine⟨_,rfl,y,_,rfl,dgY (I.hy rfl) (q3c ..),_,rfl,A.th,_,_,_,rfl,rfl,SqL.of (I.hth rfl),q08 (j:=d) etV,?_⟩
  refine⟨_,rfl,_,rfl,_,rfl,(by show 2≤sizeLine;decide),fun t ht=> ?_⟩
  have k1:Kp [] H (upd H t (.tup [V.str q.w,V.int q.st])):=Kp.new ht
  have ht1:(upd H t (.tup [V.str q.w,V.int q.st])) t=some (.tup [V.str q.w,V.int q.st]):=q03
  generalize upd H t (.tup [V.str q.w,V.int q.st])=H1 at k1 ht1
  have I1:=I.same k1
  have hkq1:=k1.get hkq nEm
  have KR1:=KR.same k1
  have hca1:=k1.get hca nEm
  clear ht I hkq KR hca hrq k1
  refine⟨kq,t,bs,F,q.w,q.st,rfl,hkq1,KR1,D.kw,D.lf,ht1,fun i v eF=> ?_,fun hv=> ?_⟩
  ·-- the key came ahead
   have hiF:=(List.getElem?_eq_some_iff.mp eF).1
   have hib:i < bs.length:=by omega
   have eb:bs[i]? = some bs[i]:=List.getElem?_eq_getElem hib
   obtain⟨kc,hb1,hc1⟩:=KR1.2 i _ _ eb eF
   generalize bs[i]=b at eb hb1
   have ebV:(bs.map V.ref)[i]? = some (V.ref b):=by rw[List.getElem?_map,eb];rfl
   have hv:=qka D.nk eF
   obtain⟨x',n',yy,eyy⟩:=D.kw _ (List.mem_of_getElem? eF)
   have ev:v= .str yy:=(Prod.mk.inj eyy).2
   subst ev
   refine⟨_,rfl,rfl,_,rfl,?_⟩
   rcases D.w with hw | hw
   ·refine iteD (by rw[hw]) ?_
    refine⟨_,rfl,_,_,rfl,rfl,_,rfl,iteD (by omega) ?_⟩
    have es:q21 T F q=(if V.str yy= .str "did" then ("did" : Str) else "no",T,F):=by
     unfold q21
     rw[if_pos hw]
     unfold doM
     rw[hv]
    rw[es]at k
    dsimp only at k
    rw[eset]at k
    refine⟨(by show 2≤sizeLine;decide),fun l hl=> ?_⟩
    have kl:Kp [] H1 (upd H1 l (.lst [V.str "no",V.str "did"])):=Kp.new hl
    refine⟨_,rfl,_,rfl,kq,_,_,_,rfl,rfl,SqL.of (kl.get hkq1 nEm),q08 (j:=i) ebV,b,_,_,_,rfl,rfl,SqT.of (kl.get hb1 nEm),q08 (j:=1) rfl,rfl,.inr ⟨_,rfl,l,_,_,V.str (if V.str yy= .str "did" then ("did" : Str) else "no"),rfl,rfl,SqL.of q03,?_,k _ (I1.same kl)⟩⟩
    by_cases c1:V.str yy= .str "did"
    ·rw[decide_eq_true c1,if_pos c1]
     exact q08 (j:=1) rfl
    ·rw[decide_eq_false c1,if_neg c1]
     exact q08 (j:=0) rfl
   ·refine q14 (by rw[hw];intro z;exact absurd (V.str.inj z) (show ¬ (("undo" : Str)= "do") by decide +kernel)) ?_
    have es:q21 T F q=(("undid" : Str),if valV F (kk q.w q.st)=some (.str "did") then putK T (Sum.inr q.x:Key) (.int (getI T q.x + q.n)) else T,putK F (kk q.w q.st) (.str "undid")):=by
     unfold q21
     rw[if_neg (by rw[hw];decide +kernel)]
     rfl
    rw[es,qij _ D.nk eF]at k
    dsimp only at k
    refine⟨_,rfl,_,_,rfl,rfl,_,rfl,q14 (by omega) ?_⟩
    have row:∀ {H2:Hp} {T2:Tb} {Dd:Ends},YP exN H0 H2 y (setD R d (T2,F)) tw A→H2 kq=some (.lst (bs.map V.ref))→q1p H2 bs F→(∀ H',YP exN H0 H' y (setD R d (T2,F.set i (kk q.w q.st,.str "undid"))) tw A→Dd.nx [some (.ref y),some (.int d),some (.ref rq),some (.str q.word),some (.str q.w),some (.int q.st),some (.str q.x),some (.int q.n),some (.ref kq),some (.ref ca),some (.int (i:Int)),none] H') →
      tAsg (tTup (q71 (tTup (q71 (tVar 4) (q71 (tVar 5) tNil))) (q71 (tC (.str "undid")) tNil))) (gSub (tVar 8) (tVar 10) qkx) Dd [some (.ref y),some (.int d),some (.ref rq),some (.str q.word),some (.str q.w),some (.int q.st),some (.str q.x),some (.int q.n),some (.ref kq),some (.ref ca),some (.int (i:Int)),none] H2:=fun {H2 T2 Dd} I2 hkq2 KR2 fin=>by
     refine⟨_,rfl,_,rfl,(by show 2≤sizeLine;decide),fun t1 ht1=>⟨(by show 2≤sizeLine;decide),fun t2 ht2=> ?_⟩⟩
     have k3:Kp [] H2 (upd (upd H2 t1 (.tup [V.str q.w,V.int q.st])) t2 (.tup [V.ref t1,V.str "undid"])):=(Kp.new ht1).trans (Kp.new ht2)
     have h1:(upd (upd H2 t1 (.tup [V.str q.w,V.int q.st])) t2 (.tup [V.ref t1,V.str "undid"])) t1=some (.tup [V.str q.w,V.int q.st]):=(Kp.new (ex:=[]) ht2).get q03 nEm
     have h2:(upd (upd H2 t1 (.tup [V.str q.w,V.int q.st])) t2 (.tup [V.ref t1,V.str "undid"])) t2=some (.tup [V.ref t1,V.str "undid"]):=q03
     generalize upd (upd H2 t1 (.tup [V.str q.w,V.int q.st])) t2 (.tup [V.ref t1,V.str "undid"])=H3 at k3 h1 h2
     have hi2:ixN (bs.map V.ref).length (i:Int)=some i:=by
      unfold ixN
      rw[List.length_map]
      simp
      omega
     refine⟨_,rfl,_,rfl,kq,_,_,i,rfl,rfl,k3.get hkq2 nEm,hi2,fin _ ?_⟩
     have e2:(setD R d (T2,F)).desks[d]? = some (T2,F):=List.getElem?_set_self hd
     have J:=(I2.same k3).putR (F':=F.set i (kk q.w q.st,.str "undid")) (bs:=bs.set i t2) ek e2 ((KR2.same k3).set (kv:=(kk q.w q.st,.str "undid")) h2 h1)
     have es2:setD (setD R d (T2,F)) d (T2,F.set i (kk q.w q.st,.str "undid"))=setD R d (T2,F.set i (kk q.w q.st,.str "undid")):=by
      unfold setD
      rw[List.set_set]
     rw[es2,List.map_set]at J
     exact J
    refine⟨_,rfl,_,rfl,kq,_,_,_,rfl,rfl,SqL.of hkq1,q08 (j:=i) ebV,b,_,_,_,rfl,rfl,SqT.of hb1,q08 (j:=1) rfl,rfl,_,rfl,?_⟩
    by_cases c1:yy= "did"
    ·subst c1
     refine iteD rfl ?_
     rw[if_pos hv]at k
     have nn:=D.di hv
     have vg:valV T (Sum.inr q.x:Key)=some (.int (getI T q.x)):=by
      cases e:valV T (Sum.inr q.x:Key) with
      | none=>exact absurd e nn
      | some v =>
       obtain⟨z,rfl⟩:=D.it _ _ e
       unfold getI
       rw[e]
     refine⟨_,rfl,_,rfl,ca,_,rfl,dgY hca1 vg,_,rfl,_,_,rfl,rfl,?_⟩
     refine⟨_,rfl,_,rfl,ca,_,rfl,.inl ⟨_,Sum.inr q.x,hca1,rfl,q0n (by have:=D.lt;omega),rfl⟩,?_⟩
     have J:=I1.putT (T':=putK T (Sum.inr q.x:Key) (.int (getI T q.x + q.n))) et D.e
     refine row J (by rw[q0b (q30 hkq1 hca1 (by intro z;cases z))];exact hkq1) (KR1.tk (Kp.tk (xs:=[ca]) (Kp.put (by simp)) fun c hc ys' e=>by simp at hc;subst hc;rw[hca1]at e;cases e)) fun H' J'=>k _ J'
    ·refine q14 (fun z=>c1 (V.str.inj z)) ?_
     rw[if_neg (by rw[hv];intro z;exact c1 (V.str.inj (Option.some.inj z)))]at k
     exact row (by rw[eset];exact I1) hkq1 KR1 fun H' J'=>k _ J'
  ·-- it never came
   have row:∀ {H2:Hp} {T2:Tb} {tl:Str},YP exN H0 H2 y (setD R d (T2,F)) tw A→H2 kq=some (.lst (bs.map V.ref))→q1p H2 bs F→∀ t1,H2 t1=none→∀ t2,(upd H2 t1 (.tup [V.str q.w,V.int q.st])) t2=none →
     (upd (upd H2 t1 (.tup [V.str q.w,V.int q.st])) t2 (.tup [V.ref t1,V.str tl])) kq=some (.lst (bs.map V.ref))∧YP exN H0 (upd (upd (upd H2 t1 (.tup [V.str q.w,V.int q.st])) t2 (.tup [V.ref t1,V.str tl])) kq (.lst (bs.map V.ref ++ [V.ref t2]))) y (setD R d (T2,putK F (kk q.w q.st) (.str tl))) tw A:=fun {H2 T2 tl} I2 hkq2 KR2 t1 ht1 t2 ht2=>by
    have k3:Kp [] H2 (upd (upd H2 t1 (.tup [V.str q.w,V.int q.st])) t2 (.tup [V.ref t1,V.str tl])):=(Kp.new ht1).trans (Kp.new ht2)
    have h1:(upd (upd H2 t1 (.tup [V.str q.w,V.int q.st])) t2 (.tup [V.ref t1,V.str tl])) t1=some (.tup [V.str q.w,V.int q.st]):=(Kp.new (ex:=[]) ht2).get q03 nEm
    have h2:(upd (upd H2 t1 (.tup [V.str q.w,V.int q.st])) t2 (.tup [V.ref t1,V.str tl])) t2=some (.tup [V.ref t1,V.str tl]):=q03
    generalize upd (upd H2 t1 (.tup [V.str q.w,V.int q.st])) t2 (.tup [V.ref t1,V.str tl])=H3 at k3 h1 h2
    refine⟨k3.get hkq2 nEm,?_⟩
    have e2:(setD R d (T2,F)).desks[d]? = some (T2,F):=List.getElem?_set_self hd
    have J:=(I2.same k3).putR (F':=F ++ [(kk q.w q.st,.str tl)]) (bs:=bs ++ [t2]) ek e2 ((KR2.same k3).snoc (kv:=(kk q.w q.st,.str tl)) h2 h1)
    have es2:setD (setD R d (T2,F)) d (T2,F ++ [(kk q.w q.st,.str tl)])=setD R d (T2,F ++ [(kk q.w q.st,.str tl)]):=by
     unfold setD
     rw[List.set_set]
    rw[es2,List.map_append]at J
    rw[q4m _ hv]
    exact J
   have I0:YP exN H0 H1 y (setD R d (T,F)) tw A:=by rw[eset];exact I1
   refine⟨_,rfl,rfl,_,rfl,?_⟩
   rcases D.w with hw | hw
   ·refine iteD (by rw[hw]) ?_
    refine⟨_,rfl,_,_,rfl,rfl,_,rfl,q14 (by decide) ?_⟩
    have es:q21 T F q=if getI T q.x < q.n then (("no" : Str),T,putK F (kk q.w q.st) (.str "no")) else (("did" : Str),putK T (Sum.inr q.x:Key) (.int (getI T q.x - q.n)),putK F (kk q.w q.st) (.str "did")):=by
     unfold q21
     rw[if_pos hw]
     unfold doM
     rw[hv]
    rw[es]at k
    refine⟨_,rfl,ca,rfl,.inl ⟨_,.inl hca1⟩,_,rfl,_,DGet.k (k:=Sum.inr q.x) hca1,_,rfl,getI T q.x,q.n,D.it.get q.x,rfl,_,rfl,?_⟩
    by_cases hge:getI T q.x ≥ q.n
    ·refine iteD hge ?_
     rw[if_neg (by omega)]at k
     refine⟨_,rfl,ca,rfl,.inl ⟨_,.inl hca1⟩,_,rfl,_,DGet.k (k:=Sum.inr q.x) hca1,_,rfl,getI T q.x,q.n,D.it.get q.x,rfl,?_⟩
     refine⟨_,rfl,_,rfl,ca,_,rfl,.inl ⟨_,Sum.inr q.x,hca1,rfl,q0n (by have:=D.lt;omega),rfl⟩,?_⟩
     have J:=I1.putT (T':=putK T (Sum.inr q.x:Key) (.int (getI T q.x - q.n))) et D.e
     have hk2:(upd H1 ca (.dK (putK T (Sum.inr q.x:Key) (.int (getI T q.x - q.n))))) kq=some (.lst (bs.map V.ref)):=by rw[q0b (q30 hkq1 hca1 (by intro z;cases z))];exact hkq1
     have KR2:=KR1.tk (Kp.tk (H:=H1) (H':=upd H1 ca (.dK (putK T (Sum.inr q.x:Key) (.int (getI T q.x - q.n))))) (xs:=[ca]) (Kp.put (by simp)) fun c hc ys' e=>by simp at hc;subst hc;rw[hca1]at e;cases e)
     refine⟨_,rfl,.inl ⟨rfl,_,SqL.of hk2⟩,_,rfl,_,rfl,(by show 2≤sizeLine;decide),fun t1 ht1=>⟨_,rfl,(by show 2≤sizeLine;decide),fun t2 ht2=> ?_⟩⟩
     obtain⟨r1,r2⟩:=row J hk2 KR2 t1 ht1 t2 ht2
     exact⟨kq,_,_,rfl,rfl,r1,(by rw[List.length_map,lb];exact q0n (by have:=D.lf;omega)),_,rfl,k _ r2⟩
    ·refine q14 hge ?_
     rw[if_pos (by omega)]at k
     refine⟨_,rfl,.inl ⟨rfl,_,SqL.of hkq1⟩,_,rfl,_,rfl,(by show 2≤sizeLine;decide),fun t1 ht1=>⟨_,rfl,(by show 2≤sizeLine;decide),fun t2 ht2=> ?_⟩⟩
     obtain⟨r1,r2⟩:=row I0 hkq1 KR1 t1 ht1 t2 ht2
     exact⟨kq,_,_,rfl,rfl,r1,(by rw[List.length_map,lb];exact q0n (by have:=D.lf;omega)),_,rfl,k _ r2⟩
   ·refine q14 (by rw[hw];intro z;exact absurd (V.str.inj z) (show ¬ (("undo" : Str)= "do") by decide +kernel)) ?_
    have es:q21 T F q=(("undid" : Str),if valV F (kk q.w q.st)=some (.str "did") then putK T (Sum.inr q.x:Key) (.int (getI T q.x + q.n)) else T,putK F (kk q.w q.st) (.str "undid")):=by
     unfold q21
     rw[if_neg (by rw[hw];decide +kernel)]
     rfl
    rw[es,if_neg (by rw[hv];simp)]at k
    refine⟨_,rfl,_,_,rfl,rfl,_,rfl,iteD (by decide) ?_⟩
    refine⟨_,rfl,.inl ⟨rfl,_,SqL.of hkq1⟩,_,rfl,_,rfl,(by show 2≤sizeLine;decide),fun t1 ht1=>⟨(by show 2≤sizeLine;decide),fun t2 ht2=> ?_⟩⟩
    obtain⟨r1,r2⟩:=row I0 hkq1 KR1 t1 ht1 t2 ht2
    exact⟨kq,_,_,rfl,rfl,r1,(by rw[List.length_map,lb];exact q0n (by have:=D.lf;omega)),k _ r2⟩
end
end K07
end
section
namespace K07
open PySem L2
section
variable {P:Program} {w:World} {K:PySem.W.Frag} {mg:Str→Option Value} {base:Heap}
theorem qk7 {c A B:Prop} [Decidable c] (hc:¬ c) (h:A):if (!decide c)=true then A else B:=by
 rw[decide_eq_false hc]
 exact h
theorem qgo {c:Int} {H0 H:Hp} {y t:Addr} {R:Rn} {tw:Tb} {A:YA} {n:Nat} {x:Str} {ss:List Stp} {s:Stp} {j:Nat} (I:YP exN H0 H y R tw A) (h:YI c R tw n) (hn:n≤300) (hm:(x,ss) ∈ R.works) (hs:ss[j]? = some s) (u:Bool) (ht:H t=some (.tup (reqM x s (if u=true then "undo" else "do") j).vs)) :
  ∃ (dn:Nat) (T:Tb) (F:Fb),s.d=(dn:Int)∧DIn H0 H y t R tw A dn (reqM x s (if u=true then "undo" else "do") j) T F:=by
 have hd:=h.ok.sd x ss hm s (List.mem_of_getElem? hs)
 obtain⟨dn,hdn⟩:∃ dn:Nat,s.d=(dn:Int):=⟨s.d.toNat,by omega⟩
 have hl:dn < R.desks.length:=by omega
 have e:R.desks[dn]? = some (R.desks[dn].1,R.desks[dn].2):=List.getElem?_eq_getElem hl
 generalize R.desks[dn].1=T at e
 generalize R.desks[dn].2=F at e
 have okD:=h.ok.ok T F (List.mem_of_getElem? e)
 obtain⟨L,ci⟩:=h.ci
 refine⟨dn,T,F,hdn,⟨I,ht,e,?_,okD.i,by have:=okD.lt;omega,by have:=okD.lf;omega,fun kv hv=> ?_,ci.nk dn T F e,fun hv=>h.di dn T F e x ss hm j s hs hdn hv⟩⟩
 ·cases u with
  | true=>exact .inr rfl
  | false=>exact .inl rfl
 ·obtain⟨x',ss',_,j',s',y',_,_,e',_⟩:=ci.ks dn T F e kv hv
  exact⟨x',j',y',e'⟩
theorem q8t (R:Rn) (d:Int) (q:Rq):(q0r R d q).2.works=R.works∧(q0r R d q).2.trail=R.trail:=by
 obtain⟨a1,a2,a3,a4,a5,a6,a7⟩:=q16 R d q
 exact⟨a1,a2⟩
def qhc:Sp:=fun vs H Q _=>∃ (y:Addr) (x luck:Str) (H0:Hp) (R:Rn) (tw:Tb) (A:YA) (c:Int) (n:Nat),vs=[.ref y,.str x,.str luck]∧YP exN H0 H y R tw A∧YI c R tw n∧n≤300∧∀ v H',AnV H' v (goM R x luck).1→YP exN H0 H' y (goM R x luck).2 (goT R tw x luck) A→Q v H'
theorem qcv:FnScope ["_law_yard","_law_work","_law_luck","_law_trail","_law_way","_law_step","_law_desk","_law_thing","_law_many","_law_request","_law_told"] ["_law_yard","_law_work","_law_luck"] (q06 qbr):=⟨rfl,rfl,rfl,by decide +kernel,rfl,by decide +kernel,by decide +kernel⟩
theorem qj8 {f:Addr} {fd:FuncData} (Fn:Fun K "_law_gone" "_law_gone" qbr f fd) (B:Blt mg) (Dlaw_next:Df P w K mg base CX0 1 "_law_next" ["_law_many","_law_trail"] qjy) (Dlaw_at_desk:Df P w K mg base CX0 2 "_law_at_desk" ["_law_yard","_law_desk","_law_request"] q7d):FnOk P w K mg base CX0 3 f fd ["_law_yard","_law_work","_law_luck"] qhc:=by
 refine Fn.ok qcv (fun vs H Q E h=> ?_) (fun cdv A' outer s H vs Q E hr h=> ?_)
 ·obtain⟨y,x,luck,H0,R,tw,A,c,n,rfl,_⟩:=h
  rfl
 ·obtain⟨y,x,luck,H0,R,tw,A,c,n,rfl,I,Y,hn,k⟩:=h
  have nd:=qcv.nd
  have hu:=q3f hr
  refine⟨_,(q01 (q0q (q1g (q17 (q0u hu (pv 0) q09 (fun _ _=>rfl))))
   (q07 (q0a q09))
   q0c)
   (q01 (q0q (q3w (q5k hu (pv 1) (q0u hu (pv 0) q09 (fun _ _=>rfl))))
   (q07 (q0a q09))
   q0c)
   (q01 (q0s (i:=3) nd rfl (Or.inl rfl) (q0u hu (q0u hu (pv 0) q09 (fun _ _=>rfl)) (pv 1) (fun _ _=>rfl)))
   (q01 (q9k (q18 Dlaw_next (hr.mono (by decide)) q0z (q00 (q0e q0m rfl B.len PySem.boot_len (q00 (q0u hu (q0u hu (pv 0) q09 (fun _ _=>rfl)) (pv 1) (fun _ _=>rfl)) q05)) (q00 (pv 3) q05))) (qal rfl (q1z (q0x (i:=4) nd rfl (Or.inl rfl)) (q1z (q0x (i:=5) nd rfl (Or.inl rfl)) q7h))))
   (q01 (q0q (q0f q1i (pv 4) q09 (q0i _))
   (q07 (q0a q09))
   q0c)
   (q01 (q9k (q0k q13 (q0u hu (q0u hu (pv 0) q09 (fun _ _=>rfl)) (pv 1) (fun _ _=>rfl)) (pv 5) (fun _ _=>rfl)) (qal rfl (q1z (q0x (i:=6) nd rfl (Or.inl rfl)) (q1z (q0x (i:=7) nd rfl (Or.inl rfl)) (q1z (q0x (i:=8) nd rfl (Or.inl rfl)) q7h)))))
   (q01 (q0s (i:=9) nd rfl (Or.inl rfl) (q19 (q00 (pv 4) (q00 (pv 1) (q00 (pv 5) (q00 (pv 7) (q00 (pv 8) q05)))))))
   (q01 (q0s (i:=10) nd rfl (Or.inl rfl) q09)
   (q01 (q0q (q0f q1i (pv 2) q09 (q0i _))
   (q07 (q2a (q52 PySem.F.plainAttrs_list PySem.F.slot_list_append PySem.F.type_list_append q1o (q0u hu (pv 0) q09 (fun _ _=>rfl)) (q00 (q19 (q00 (pv 6) (q00 (pv 9) q05))) q05))))
   (q07 (q0s (i:=10) nd rfl (Or.inl rfl) (q18 Dlaw_at_desk (hr.mono (by decide)) q0z (q00 (pv 0) (q00 (pv 6) (q00 (pv 9) q05)))))))
   (q01 (q0q (q0f q4c (pv 2) q09 (q0i _))
   (q01 (q1e hu (q0u hu (pv 0) q09 (fun _ _=>rfl)) (pv 1) (q0l q24 (q3q hu (q0u hu (pv 0) q09 (fun _ _=>rfl)) (pv 1) q02 ⟨rfl,rfl,rfl,rfl⟩) q02) rfl)
   (q01 (q0q (PW.pt (q2u (q0f q1i (pv 4) q09 (q0i _)) (q23 (q0f q5n (q0u hu (q0u hu (pv 0) q09 (fun _ _=>rfl)) (pv 1) (fun _ _=>rfl)) (q0u hu (pv 0) q09 (fun _ _=>rfl)) (q0i _)))))
   (q07 (q0a q4k))
   q0c)
   (q07 (q0s (i:=10) nd rfl (Or.inl rfl) q09))))
   q0c)
   (q01 (q1e hu (q0u hu (pv 0) q09 (fun _ _=>rfl)) (pv 1) q02 rfl)
   (q01 (q2a (q52 PySem.F.plainAttrs_list PySem.F.slot_list_append PySem.F.type_list_append q1o (pv 3) (q00 (q19 (q00 (pv 10) (q00 (pv 5) q05))) q05)))
   (q07 (q0a (q19 (q00 (pv 10) (q00 (pv 5) q05))))))))))))))))),?_⟩
  refine⟨_,rfl,y,_,rfl,dgY (I.hy rfl) (qcr ..),_,rfl,?_⟩
  cases eu:R.up with
  | false =>
   unfold goM goT at k
   rw[if_pos eu,if_pos eu]at k
   exact iteT (k _ H rfl I)
  | true =>
  refine iteF ?_
  have gw:=DGet.k (k:=Sum.inr x) (I.hwd rfl)
  rw[q2p]at gw
  refine⟨_,rfl,_,rfl,y,_,rfl,dgY (I.hy rfl) (q3p ..),A.wd,_,rfl,gw,_,rfl,?_⟩
  have nu:¬ R.up=false:=by rw[eu];simp
  cases ew:R.wk x with
  | none =>
   unfold goM goT at k
   rw[if_neg nu,if_neg nu,ew]at k
   rw[show wkF R.works x=none from ew]
   exact iteT (k _ H rfl I)
  | some ss =>
  have ew':wkF R.works x=some ss:=ew
  rw[ew']at gw ⊢
  refine iteF ?_
  have hm:=q2q ew'
  obtain⟨as,hwa0,S⟩:=I.wk x ss hm
  have hwa:=I.kp.get hwa0 nEm
  obtain⟨tgx,at',hta⟩:=I.tl x ss hm rfl
  have gt:=DGet.k (k:=Sum.inr x) (I.htd rfl)
  rw[q2p,ew']at gt
  have el:(((as.map V.ref).length:Nat):Int)=(ss.length:Int):=by rw[List.length_map,S.len]
  refine⟨_,rfl,y,_,rfl,dgY (I.hy rfl) (q5e ..),_,rfl,A.td,_,rfl,gt,?_⟩
  refine⟨_,rfl,y,_,rfl,dgY (I.hy rfl) (q3p ..),_,rfl,A.wd,_,rfl,gw,A.wa x,_,rfl,.inl (SqL.of hwa),_,rfl,?_⟩
  rw[el]
  refine⟨_,A.ta x,at',R.trail x,rfl,hta,fun cp H1 hcp hcp1 kp1=> ?_⟩
  rw[← (Y.mr x ss hm).next]at hcp1
  have I1:=I.same kp1
  have eg:goM R x luck=match nxOf ss.length (R.trail x) with
   | .dO i=>match ss[i.toNat]? with
    | some s=>(optA (q0w R x s false i luck).1,(q0w R x s false i luck).2)
    | none=>(.non,R)
   | .un i=>match ss[i.toNat]? with
    | some s=>(optA (q0w R x s true i luck).1,(q0w R x s true i luck).2)
    | none=>(.non,R)
   | _=>(.str "ended",R):=by
   unfold goM
   rw[if_neg nu,ew] <;> rfl
  have et:goT R tw x luck=match nxOf ss.length (R.trail x) with
   | .dO _=>q2c R tw x luck false
   | .un _=>q2c R tw x luck true
   | _=>tw:=by
   unfold goT
   rw[if_neg nu,ew] <;> rfl
  rw[eg,et]at k
  clear eg et gw gt hta tgx hwa I
  have cs:(nxOf ss.length (R.trail x)= .dn∨nxOf ss.length (R.trail x)= .ud)∨∃ (u:Bool) (j:Nat),nxOf ss.length (R.trail x)=(if u=true then .un (j:Int) else .dO (j:Int)):=by
   cases e:nxOf ss.length (R.trail x) with
   | dn=>exact .inl (.inl rfl)
   | ud=>exact .inl (.inr rfl)
   | dO i =>
    have:=Y.ok.next hm (.inl e)
    exact .inr ⟨false,i.toNat,by rw[if_neg (by simp)];congr 1;omega⟩
   | un i =>
    have:=Y.ok.next hm (.inr e)
    exact .inr ⟨true,i.toNat,by rw[if_pos rfl];congr 1;omega⟩
  rcases cs with cs | ⟨u,j,e⟩
  ·have hv:∃ z,H1 cp=some (.tup [.str "end",z])∧∀ v H',AnV H' v (.str "ended")→YP exN H0 H' y R tw A→Q v H':=by
    rcases cs with e | e
    ·rw[e]at hcp1 k
     exact⟨_,hcp1,k⟩
    ·rw[e]at hcp1 k
     exact⟨_,hcp1,k⟩
   obtain⟨z,hcp1,k⟩:=hv
   refine⟨cp,_,rfl,SqT.of hcp1,rfl,_,_,rfl,_,_,rfl,rfl,?_⟩
   exact⟨_,rfl,rfl,_,rfl,iteD rfl (k _ H1 rfl I1)⟩
  have hi:0≤(j:Int)∧(j:Int) < ss.length:=Y.ok.next hm (by cases u with | false=>exact .inl e | true=>exact .inr e)
  have hj:j < ss.length:=by omega
  have es:ss[j]? = some ss[j]:=List.getElem?_eq_getElem hj
  generalize ss[j]=sp at es
  have k2:∀ v H',AnV H' v (optA (q0w R x sp u j luck).1)→YP exN H0 H' y (q0w R x sp u j luck).2 (q2c R tw x luck u) A→Q v H':=by
   cases u with
   | false =>
    rw[show nxOf ss.length (R.trail x)= .dO (j:Int) from e]at k
    dsimp only at k
    rw[Int.toNat_natCast,es]at k
    exact k
   | true =>
    rw[show nxOf ss.length (R.trail x)= .un (j:Int) from e]at k
    dsimp only at k
    rw[Int.toNat_natCast,es]at k
    exact k
  clear k
  have hcp2:H1 cp=some (.tup [.str (if u=true then "undo" else "do"),.int (j:Int)]):=by
   rw[hcp1,e]
   cases u <;> rfl
  obtain⟨q,hq⟩:∃ q,reqM x sp (if u=true then "undo" else "do") j=q:=⟨_,rfl⟩
  rw[qa3 R x sp u j luck hq]at k2
  have qv:q.vs=[.str (if u=true then "undo" else "do"),.str x,.int (j:Int),.str sp.x,.int sp.n]:=by rw[← hq];rfl
  have hu2:∀ wy:Str,wy=(if u=true then ("undo" : Str) else "do")→¬ wy= "end" ∧ (wy= "undo" ↔ u=true):=fun wy e=>by
   subst e
   cases u
   ·exact⟨by decide +kernel,by decide +kernel⟩
   ·exact⟨by decide +kernel,by decide +kernel⟩
  obtain⟨wy,hwy⟩:∃ wy,wy=(if u=true then ("undo" : Str) else "do"):=⟨_,rfl⟩
  obtain⟨hw1,hw2⟩:=hu2 wy hwy
  have din:=fun {H2:Hp} {t:Addr} (J:YP exN H0 H2 y R tw A) (ht:H2 t=some (.tup (reqM x sp (if u=true then "undo" else "do") j).vs))=>qgo J Y hn hm es u ht
  rw[hq]at din
  rw[← hwy]at hcp2 qv
  clear hu2 hcp1
  refine⟨cp,_,rfl,SqT.of hcp2,rfl,_,_,rfl,_,_,rfl,rfl,?_⟩
  refine⟨_,rfl,rfl,_,rfl,q14 (fun z=>hw1 (V.str.inj z)) ?_⟩
  have hj2:j < as.length:=by rw[S.len];exact hj
  have ea:as[j]? = some as[j]:=List.getElem?_eq_getElem hj2
  generalize as[j]=sa at ea
  have hsa:H1 sa=some (.tup [.int sp.d,.str sp.x,.int sp.n]):=I1.kp.get (S.at_ j sa sp ea es) nEm
  have gw:=DGet.k (k:=Sum.inr x) (I1.hwd rfl)
  rw[q2p,ew']at gw
  refine⟨_,rfl,y,_,rfl,dgY (I1.hy rfl) (q3p ..),_,rfl,A.wd,_,rfl,gw,_,rfl,A.wa x,_,_,_,rfl,rfl,SqL.of (I1.kp.get hwa0 nEm),q08 (j:=j) (by rw[List.getElem?_map,ea];rfl),sa,_,rfl,SqT.of hsa,rfl,_,_,rfl,_,_,rfl,_,_,rfl,rfl,?_⟩
  refine⟨_,rfl,_,rfl,_,rfl,_,rfl,_,rfl,(by show 5≤sizeLine;decide),fun t ht=> ?_⟩
  have kt:Kp [] H1 (upd H1 t (.tup [V.str wy,V.str x,V.int (j:Int),V.str sp.x,V.int sp.n])):=Kp.new ht
  have ht2:(upd H1 t (.tup [V.str wy,V.str x,V.int (j:Int),V.str sp.x,V.int sp.n])) t=some (.tup q.vs):=by rw[q03,qv]
  generalize upd H1 t (.tup [V.str wy,V.str x,V.int (j:Int),V.str sp.x,V.int sp.n])=H2 at kt ht2
  have I2:=I1.same kt
  clear kt ht I1 hsa gw hcp2 kp1 hcp
  obtain⟨dn,T,F,hdn,D⟩:=din I2 ht2
  obtain⟨aw,at2⟩:=q8t R sp.d q
  have ltr:=Y.ok.st x
  have ltw:=Y.lt
  have fin:∀ {R2:Rn} {tw2:Tb} {H3:Hp} {tl:Str},YP exN H0 H3 y R2 tw2 A→R2.works=R.works→R2.trail=R.trail→∀ t',(upd H3 A.ti (.dK (putK tw2 (Sum.inr x:Key) (.int 0)))) t'=none→∃ as2:List Addr,(upd H3 A.ti (.dK (putK tw2 (Sum.inr x:Key) (.int 0)))) (A.ta x)=some (.lst (as2.map V.ref))∧as2.length≤300 ∧
    (upd (upd H3 A.ti (.dK (putK tw2 (Sum.inr x:Key) (.int 0)))) t' (.tup [V.str tl,V.int (j:Int)])) (A.ta x)=some (.lst (as2.map V.ref)) ∧
    ∀ t2,(upd (upd (upd H3 A.ti (.dK (putK tw2 (Sum.inr x:Key) (.int 0)))) t' (.tup [V.str tl,V.int (j:Int)])) (A.ta x) (.lst (as2.map V.ref ++ [V.ref t']))) t2=none →
     YP exN H0 (upd (upd (upd (upd H3 A.ti (.dK (putK tw2 (Sum.inr x:Key) (.int 0)))) t' (.tup [V.str tl,V.int (j:Int)])) (A.ta x) (.lst (as2.map V.ref ++ [V.ref t']))) t2 (.tup [V.str tl,V.int (j:Int)])) y (q1x R2 x (tl,(j:Int))) (putK tw2 (Sum.inr x:Key) (.int 0)) A:=fun {R2 tw2 H3 tl} J e1 e2 t' ht'=>by
   have J1:=J.putI (putK tw2 (Sum.inr x:Key) (.int 0))
   have hm2:(x,ss) ∈ R2.works:=by rw[e1];exact hm
   obtain⟨_,as2,T2⟩:=J1.tl x ss hm2 rfl
   have kn:Kp [] (upd H3 A.ti (.dK (putK tw2 (Sum.inr x:Key) (.int 0)))) (upd (upd H3 A.ti (.dK (putK tw2 (Sum.inr x:Key) (.int 0)))) t' (.tup [V.str tl,V.int (j:Int)])):=Kp.new ht'
   refine⟨as2,T2.ls,?_,kn.get T2.ls nEm,fun t2 ht2=> ?_⟩
   ·have:=T2.en.len
    rw[e2]at this
    omega
   ·have J2:=(J1.same kn).putE (e:=(tl,(j:Int))) (t:=t') hm2 (T2.same kn) q03
    exact(J2.same (Kp.new ht2)).tries _
  have hok1:¬ (("ok" : Str)= "lost"):=by decide +kernel
  by_cases hok:luck= "ok"
  ·have ett:q2c R tw x luck u=putK tw (Sum.inr x:Key) (.int 0):=by unfold q2c;rw[if_pos hok]
   rw[ett,if_pos hok]at k2
   refine⟨_,rfl,rfl,_,rfl,q14 (fun z=>hok1 (hok.symm.trans (V.str.inj z))) ?_⟩
   refine⟨_,rfl,_,rfl,_,rfl,y,t,dn,H0,R,tw,A,q,T,F,by rw[hdn];rfl,D,fun H3 J=> ?_⟩
   rw[← hdn]at J ⊢
   refine⟨_,rfl,rfl,_,rfl,q3u (by rw[hok]) ?_⟩
   refine⟨_,rfl,y,_,rfl,dgY (J.hy rfl) (q4f ..),_,rfl,A.ti,_,rfl,.inl ⟨_,Sum.inr x,J.hti rfl,rfl,q0n (by omega),rfl⟩,?_⟩
   obtain⟨as2,q1,q2⟩:∃ as2:List Addr,(upd H3 A.ti (.dK (putK tw (Sum.inr x:Key) (.int 0)))) (A.ta x)=some (.lst (as2.map V.ref))∧True:=by
    have J1:=J.putI (putK tw (Sum.inr x:Key) (.int 0))
    obtain⟨_,as2,T2⟩:=J1.tl x ss (by rw[aw];exact hm) rfl
    exact⟨as2,T2.ls,trivial⟩
   refine⟨_,rfl,.inl ⟨rfl,_,SqL.of q1⟩,_,rfl,_,rfl,(by show 2≤sizeLine;decide),fun t' ht'=> ?_⟩
   obtain⟨as3,r1,r2,r3,r4⟩:=fin (tl:=(q0r R sp.d q).1) J aw at2 t' ht'
   refine⟨A.ta x,_,_,rfl,rfl,r3,(by rw[List.length_map];exact q0n (by omega)),?_⟩
   exact⟨_,rfl,_,rfl,(by show 2≤sizeLine;decide),fun t2 ht2=>k2 _ _ ⟨t2,rfl,q03⟩ (r4 t2 ht2)⟩
  rw[if_neg hok]at k2
  obtain⟨b1,b2,b3,b4,b5⟩:=q9c R sp.d q luck
  have hop:∃ z:Str,z=luck:=⟨_,rfl⟩
  refine⟨_,rfl,rfl,_,rfl,?_⟩
  have sent:∀ {H3:Hp},YP exN H0 H3 y (q1d R sp.d q luck).2 tw A→∃ tw2,tw2=putK tw (Sum.inr x:Key) (.int (getI tw x + 1))∧H3 y=some (.dK (yT A.th R.bound R.up A.lo A.ky A.wd A.td A.ti))∧H3 A.ti=some (.dK tw)∧YP exN H0 (upd H3 A.ti (.dK tw2)) y (q1d R sp.d q luck).2 tw2 A:=fun {H3} J=>by
   refine⟨_,rfl,?_,J.hti rfl,J.putI _⟩
   have:=J.hy rfl
   rw[b3,b5]at this
   exact this
  by_cases hl:luck= "lost"
  refine iteD (congrArg V.str hl) ?_
  obtain⟨al,hlo,LL⟩:=I2.hlo rfl
  refine⟨_,rfl,y,_,rfl,dgY (I2.hy rfl) (q5l ..),.inl ⟨rfl,_,SqL.of hlo⟩,_,rfl,_,rfl,(by show 2≤sizeLine;decide),fun t' ht'=> ?_⟩
  have kn:Kp [] H2 (upd H2 t' (.tup [V.int sp.d,V.ref t])):=Kp.new ht'
  refine⟨A.lo,_,_,rfl,rfl,kn.get hlo nEm,(by rw[List.length_map,LL.len];exact q0n (by have:=Y.ok.sl;omega)),?_⟩
  have J0:=(I2.same kn).putL (t:=t') (q:=(sp.d,q)) (kn.get hlo nEm) (LL.tk (Kp.tk kn (by simp))) ⟨t,q03,kn.get ht2 nEm⟩
  have J:YP exN H0 (upd (upd H2 t' (.tup [V.int sp.d,V.ref t])) A.lo (.lst (al.map V.ref ++ [V.ref t']))) y (q1d R sp.d q luck).2 tw A:=by
   unfold q1d
   rw[if_pos hl]
   exact J0
  clear J0 hlo LL
  generalize upd (upd H2 t' (.tup [V.int sp.d,V.ref t])) A.lo (.lst (al.map V.ref ++ [V.ref t']))=H3 at J
  generalize (("" : Str))=tl0
  rotate_left
  refine q14 (fun z=>hl (V.str.inj z)) ?_
  refine⟨_,rfl,_,rfl,_,rfl,y,t,dn,H0,R,tw,A,q,T,F,by rw[hdn];rfl,D,fun H3 J0=> ?_⟩
  rw[← hdn]at J0 ⊢
  have J:YP exN H0 H3 y (q1d R sp.d q luck).2 tw A:=by
   unfold q1d
   rw[if_neg hl]
   exact J0
  clear J0
  generalize (q0r R (↑dn) q).1=tl0
  all_goals
   obtain⟨tw2,htw2,hy3,hti3,J2⟩:=sent J
   refine⟨_,rfl,rfl,_,rfl,qk7 (fun z=>hok (V.str.inj z)) ?_⟩
   refine⟨_,rfl,y,_,rfl,dgY hy3 (q4f ..),A.ti,rfl,.inl ⟨_,.inl hti3⟩,_,rfl,_,DGet.k (k:=Sum.inr x) hti3,getI tw x,1,Y.it.get x,rfl,?_⟩
   refine⟨_,rfl,y,_,rfl,dgY hy3 (q4f ..),_,rfl,A.ti,_,rfl,.inl ⟨_,Sum.inr x,hti3,rfl,q0n (by omega),rfl⟩,?_⟩
   rw[← htw2]
   have hy4:=J2.hy rfl
   rw[b3,b5]at hy4
   have hti4:=J2.hti rfl
   have g4:DGet (upd H3 A.ti (.dK tw2)) A.ti (.str x) (some (.int (getI tw x + 1))):=dgY hti4 (by rw[htw2,q1w,if_pos rfl])
   refine⟨_,rfl,rfl,_,rfl,?_⟩
   by_cases hun:u=true
   ·refine iteD (congrArg V.str (hw2.mpr hun)) ?_
    rw[if_pos hun]at k2
    refine k2 _ _ rfl ?_
    unfold q2c
    rw[if_neg hok,if_pos (.inl hun),← htw2]
    exact J2
   ·refine q14 (fun z=>hun (hw2.mp (V.str.inj z))) ?_
    rw[if_neg hun]at k2
    have ht:getI tw x=getI R.tries x:=Y.tr x fun tt i hm'=>by
     rw[← q42 Y.ok hm hm',e,if_neg hun]
     intro z;cases z
    refine⟨_,rfl,y,_,rfl,dgY hy4 (q4f ..),_,rfl,A.ti,_,rfl,g4,_,rfl,y,_,rfl,dgY hy4 (qfd ..),_,_,rfl,rfl,_,rfl,?_⟩
    by_cases hb:getI tw x + 1 < R.bound
    ·refine iteD hb ?_
     rw[if_neg (by omega)]at k2
     refine k2 _ _ rfl ?_
     unfold q2c
     rw[if_neg hok,if_pos (.inr hb),← htw2]
     exact J2.tries _
    ·refine q14 hb ?_
     rw[if_pos (by omega)]at k2
     have l2:tw2.length≤800:=by
      have:=q0o tw (Sum.inr x:Key) (.int (getI tw x + 1))
      rw[← htw2]at this
      omega
     refine⟨_,rfl,y,_,rfl,dgY hy4 (q4f ..),_,rfl,A.ti,_,rfl,.inl ⟨_,Sum.inr x,hti4,rfl,q0n (by omega),rfl⟩,?_⟩
     obtain⟨as2,q1,q2⟩:∃ as2:List Addr,(upd (upd H3 A.ti (.dK tw2)) A.ti (.dK (putK tw2 (Sum.inr x:Key) (.int 0)))) (A.ta x)=some (.lst (as2.map V.ref))∧True:=by
      have J1:=J2.putI (putK tw2 (Sum.inr x:Key) (.int 0))
      obtain⟨_,as2,T2⟩:=J1.tl x ss (by rw[b1];exact hm) rfl
      exact⟨as2,T2.ls,trivial⟩
     refine⟨_,rfl,.inl ⟨rfl,_,SqL.of q1⟩,_,rfl,_,rfl,(by show 2≤sizeLine;decide),fun t' ht'=> ?_⟩
     obtain⟨as3,r1,r2,r3,r4⟩:=fin (tl:=("unsure" : Str)) J2 b1 b2 t' ht'
     refine⟨A.ta x,_,_,rfl,rfl,r3,(by rw[List.length_map];exact q0n (by omega)),?_⟩
     refine⟨_,rfl,_,rfl,(by show 2≤sizeLine;decide),fun t2 ht2=>k2 _ _ ⟨t2,rfl,q03⟩ ?_⟩
     have J9:=r4 t2 ht2
     unfold q2c
     rw[if_neg hok,if_neg (by intro z;rcases z with z | z;exact hun z;exact hb z),← htw2]
     exact J9.tries _
end
end K07
end
section
namespace K07
open PySem L2
section
variable {P:Program} {w:World} {K:PySem.W.Frag} {mg:Str→Option Value} {base:Heap}
theorem qj2 {R:Rn} (h:R.up=false→R.tries=[]):q1j R .stop=(.bl R.up,{ R with up:=false,tries:=[] }):=by
 show (if R.up=true then (An.bl true,({ R with up:=false,tries:=[] }:Rn)) else (.bl false,R))=_
 by_cases hu:R.up=true
 ·rw[if_pos hu,hu]
 ·rw[if_neg hu]
  have hf:R.up=false:=by cases e:R.up with | true=>exact absurd e hu | false=>rfl
  have:=h hf
  obtain⟨ds,b,up,ws,tr,ti,lo⟩:=R
  dsimp only at hf this ⊢
  subst hf this
  rfl
theorem qia (R:Rn):q1j R .wake=(.bl (!R.up),{ R with up:=true }):=by
 show (if R.up=true then (An.bl false,R) else (.bl true,{ R with up:=true }))=_
 by_cases hu:R.up=true
 ·rw[if_pos hu]
  obtain⟨ds,b,up,ws,tr,ti,lo⟩:=R
  dsimp only at hu ⊢
  subst hu
  rfl
 ·rw[if_neg hu]
  have hf:R.up=false:=by cases e:R.up with | true=>exact absurd e hu | false=>rfl
  rw[hf]
  rfl
def qlc:Sp:=fun vs H Q _=>∃ (y a:Addr) (d:Deed) (H0:Hp) (R:Rn) (tw:Tb) (A:YA) (c n:Nat),vs=[.ref y,.ref a]∧q1y H0 a d∧YP exN H0 H y R tw A∧YI c R tw n∧n≤300∧q5m c d∧R.desks.length=c∧c≤9∧∀ v H' A',AnV H' v (q1j R d).1→YP exN H0 H' y (q1j R d).2 (qb1 R tw d) A'→Q v H'
theorem qhf:FnScope ["_law_yard","_law_deed","_law_step","_law_things","_law_was"] ["_law_yard","_law_deed"] (q06 qbo):=⟨rfl,rfl,rfl,by decide +kernel,rfl,by decide +kernel,by decide +kernel⟩
theorem qir:¬ (("go" : Str)= "start")∧¬ (("late" : Str)= "start")∧¬ (("late" : Str)= "go")∧¬ (("fill" : Str)= "start")∧¬ (("fill" : Str)= "go")∧¬ (("fill" : Str)= "late")∧¬ (("stop" : Str)= "start")∧¬ (("stop" : Str)= "go")∧¬ (("stop" : Str)= "late")∧¬ (("stop" : Str)= "fill")∧¬ (("wake" : Str)= "start")∧¬ (("wake" : Str)= "go")∧¬ (("wake" : Str)= "late")∧¬ (("wake" : Str)= "fill")∧¬ (("wake" : Str)= "stop")∧¬ (("stop" : Str)= "wake"):=by decide +kernel
theorem qkw {f:Addr} {fd:FuncData} (Fn:Fun K "_law_due_answer" "_law_due_answer" qbo f fd) (B:Blt mg) (Dlaw_at_desk:Df P w K mg base CX0 2 "_law_at_desk" ["_law_yard","_law_desk","_law_request"] q7d) (Dlaw_gone:Df P w K mg base CX0 3 "_law_gone" ["_law_yard","_law_work","_law_luck"] qhc):FnOk P w K mg base CX0 4 f fd ["_law_yard","_law_deed"] qlc:=by
 refine Fn.ok qhf (fun vs H Q E h=> ?_) (fun cdv A' outer s H vs Q E hr h=> ?_)
 ·obtain⟨y,a,d,H0,R,tw,A,c,n,rfl,_⟩:=h
  rfl
 ·obtain⟨y,a,d,H0,R,tw,A,c,n,rfl,hd0,I,Y,hn,ok,hc,hc9,k⟩:=h
  have nd:=qhf.nd
  have hu:=q3f hr
  have hdA:=hd0.same I.kp
  obtain⟨n1,n2,n3,n4,n5,n6,n7,n8,n9,n10,n11,n12,n13,n14,n15,n16⟩:=qir
  have no:∀ {p q:Str},¬ p=q→¬ V.str p=V.str q:=fun h z=>h (V.str.inj z)
  refine⟨_,(q01 (q0q (q0f q1i (q0k q0h (pv 1) q02 (fun _ _=>rfl)) q09 (q0i _))
   (q01 (q2e PassesOwn.never rfl (q1l (q0k q0h (pv 1) q02 (fun _ _=>rfl))) (q0x (i:=2) nd rfl (Or.inl rfl))
   (q07 (q0q (PW.pt (q2u (q0f q5n (q0k q0h (pv 2) q02 (fun _ _=>rfl)) q02 (q0i _)) (q23 (q0f q72 (q0k q0h (pv 2) q02 (fun _ _=>rfl)) (q0e q0m rfl B.len PySem.boot_len (q00 (q0u hu (pv 0) q09 (fun _ _=>rfl)) q05)) (q0i _)))))
   (q07 (q0a q09))
   q0c)))
   (q01 (q0q (q3w (qgn hu (q0k q0h (pv 1) q02 (fun _ _=>rfl)) (q0u hu (pv 0) q09 (fun _ _=>rfl))))
   (q07 (q0a q1k))
   q0c)
   (q01 (q1e hu (q0u hu (pv 0) q09 (fun _ _=>rfl)) (q0k q0h (pv 1) q02 (fun _ _=>rfl)) (q0k q0h (pv 1) q02 (fun _ _=>rfl)) rfl)
   (q01 (q1e hu (q0u hu (pv 0) q09 (fun _ _=>rfl)) (q0k q0h (pv 1) q02 (fun _ _=>rfl)) (q1t q05) rfl)
   (q07 (q0a q1k))))))
   q0c)
   (q01 (q0q (q0f q1i (q0k q0h (pv 1) q02 (fun _ _=>rfl)) q09 (q0i _))
   (q07 (q0a (q18 Dlaw_gone (hr.mono (by decide)) q0z (q00 (pv 0) (q00 (q0k q0h (pv 1) q02 (fun _ _=>rfl)) (q00 (q0k q0h (pv 1) q02 (fun _ _=>rfl)) q05))))))
   q0c)
   (q01 (q0q (q0f q1i (q0k q0h (pv 1) q02 (fun _ _=>rfl)) q09 (q0i _))
   (q01 (q0q (q0f q72 (q0k q0h (pv 1) q02 (fun _ _=>rfl)) (q0e q0m rfl B.len PySem.boot_len (q00 (q0u hu (pv 0) q09 (fun _ _=>rfl)) q05)) (q0i _))
   (q07 (q0a q4k))
   q0c)
   (q07 (q0a (q18 Dlaw_at_desk (hr.mono (by decide)) q0z (q00 (pv 0) (q00 (q0k q0h (q0k q13 (q0u hu (pv 0) q09 (fun _ _=>rfl)) (q0k q0h (pv 1) q02 (fun _ _=>rfl)) (fun _ _=>rfl)) q02 (fun _ _=>rfl)) (q00 (q0k q0h (q0k q13 (q0u hu (pv 0) q09 (fun _ _=>rfl)) (q0k q0h (pv 1) q02 (fun _ _=>rfl)) (fun _ _=>rfl)) q02 (fun _ _=>rfl)) q05)))))))
   q0c)
   (q01 (q0q (q0f q1i (q0k q0h (pv 1) q02 (fun _ _=>rfl)) q09 (q0i _))
   (q01 (q0q (PW.pt (q2u (q0f q5n (q0k q0h (pv 1) q02 (fun _ _=>rfl)) q02 (q0i _)) (q23 (q0f q72 (q0k q0h (pv 1) q02 (fun _ _=>rfl)) (q0e q0m rfl B.len PySem.boot_len (q00 (q0u hu (pv 0) q09 (fun _ _=>rfl)) q05)) (q0i _)))))
   (q07 (q0a q09))
   q0c)
   (q01 (q0s (i:=3) nd rfl (Or.inl rfl) (q0k q13 (q0u hu (pv 0) q09 (fun _ _=>rfl)) (q0k q0h (pv 1) q02 (fun _ _=>rfl)) (fun _ _=>rfl)))
   (q01 (q1e hu (pv 3) (q0k q0h (pv 1) q02 (fun _ _=>rfl)) (q0l q24 (q3q hu (pv 3) (q0k q0h (pv 1) q02 (fun _ _=>rfl)) q02 ⟨rfl,rfl,rfl,rfl⟩) (q0k q0h (pv 1) q02 (fun _ _=>rfl))) rfl)
   (q07 (q0a q1k)))))
   q0c)
   (q01 (q0s (i:=4) nd rfl (Or.inl rfl) (q0u hu (pv 0) q09 (fun _ _=>rfl)))
   (q01 (q1e hu (pv 0) q09 (q2z q1i (q0k q0h (pv 1) q02 (fun _ _=>rfl)) q09 (q0i _)) rfl)
   (q01 (q0q (q0f q1i (q0k q0h (pv 1) q02 (fun _ _=>rfl)) q09 (q0i _))
   (q07 (q1e hu (pv 0) q09 q2y rfl))
   q0c)
   (q07 (q0a (q2z q4c (pv 4) (q0u hu (pv 0) q09 (fun _ _=>rfl)) (q0i _))))))))))),?_⟩
  have hth:=I.hth rfl
  have lth:(((A.tas.map V.ref).length:Nat):Int)=(c:Int):=by rw[List.length_map,I.lt,hc]
  cases d with
  | start x ss =>
   obtain⟨l,as,ha,hl,S,ls⟩:=hdA
   obtain⟨l0,as0,ha0,hl0,S0,_⟩:=hd0
   have e1:=I.kp.get ha0 nEm
   rw[ha]at e1
   cases e1
   have e2:=I.kp.get hl0 nEm
   rw[hl]at e2
   have e3:as.map V.ref=as0.map V.ref:=by injection (Option.some.inj e2)
   have e4:as=as0:=(List.map_inj_right fun a b z=>by injection z).mp e3
   subst e4
   clear e2 e3
   have okS:∀ s ∈ ss,0≤s.d∧s.d < c:=ok.2.2.1
   refine⟨_,rfl,a,_,_,_,rfl,rfl,SqT.of ha,q08 (j:=0) rfl,rfl,_,rfl,iteD rfl ?_⟩
   refine⟨_,rfl,a,_,_,_,rfl,rfl,SqT.of ha,q08 (j:=2) rfl,l,rfl,⟨_,SqL.of hl⟩,?_⟩
   refine q25 (xs:=as.map V.ref) (fun i σ H2=>∃ v2:Option V,σ=[some (.ref y),some (.ref a),v2,none,none]∧H2=H) ⟨none,rfl,rfl⟩ (fun i σ H2 _ ⟨_,_,e⟩=>by rw[e];exact SqL.of hl) ?_ ?_
   ·rintro i z σ H2 hx ⟨v2,rfl,rfl⟩
    rw[List.getElem?_map]at hx
    cases ea:as[i]? with
    | none=>rw[ea]at hx;cases hx
    | some sa =>
    rw[ea]at hx
    obtain rfl:V.ref sa=z:=Option.some.inj hx
    have hi:i < ss.length:=by rw[← S.len];exact(List.getElem?_eq_some_iff.mp ea).1
    have es:ss[i]? = some ss[i]:=List.getElem?_eq_getElem hi
    have hd:=okS _ (List.getElem_mem hi)
    generalize ss[i]=sp at es hd
    have hsa:H2 sa=some (.tup [.int sp.d,.str sp.x,.int sp.n]):=S.at_ i sa sp ea es
    refine⟨_,rfl,sa,_,_,_,rfl,rfl,SqT.of hsa,q08 (j:=0) rfl,_,_,rfl,rfl,_,rfl,q14 (by omega) ?_⟩
    refine⟨_,rfl,sa,_,_,_,rfl,rfl,SqT.of hsa,q08 (j:=0) rfl,_,rfl,y,_,rfl,dgY (I.hy rfl) (q3c ..),A.th,_,rfl,.inl (SqL.of hth),_,_,rfl,rfl,_,rfl,q14 (by rw[lth];omega) ?_⟩
    exact⟨_,rfl,rfl⟩
   rintro σ H2 ⟨v2,rfl,rfl⟩
   have hA:(ss.all fun s=>inD R s.d)=true:=List.all_eq_true.mpr fun s hs=>by
    have:=okS s hs
    unfold inD
    rw[decide_eq_true this.1,decide_eq_true (by omega:s.d < R.desks.length)]
    rfl
   have ed:q1j R (.start x ss)=match R.wk x with
    | some _=>(.bl false,R)
    | none=>(.bl true,{ R with works:=R.works ++ [(x,ss)],trail:=fun y=>if y=x then [] else R.trail y }):=by
    show q2m R x ss=_
    unfold q2m
    rw[if_pos hA] <;> rfl
   have et:qb1 R tw (.start x ss)=tw:=rfl
   rw[ed,et]at k
   have gw:=DGet.k (k:=Sum.inr x) (I.hwd rfl)
   rw[q2p]at gw
   refine⟨_,rfl,a,_,_,_,rfl,rfl,SqT.of ha,q08 (j:=1) rfl,_,rfl,y,_,rfl,dgY (I.hy rfl) (q3p ..),A.wd,_,rfl,gw,_,rfl,?_⟩
   cases ew:R.wk x with
   | some ss' =>
    rw[show wkF R.works x=some ss' from ew]
    rw[ew]at k
    exact iteT (k _ H2 A rfl I)
   | none =>
    rw[show wkF R.works x=none from ew]
    rw[ew]at k
    refine iteF ?_
    have lw:∀ f:Str→Addr,(wkT R.works f).length < sizeLine:=fun f=>by unfold wkT;rw[List.length_map];exact q0n (by have:=Y.ok.sw;omega)
    refine⟨_,rfl,a,_,_,_,rfl,rfl,SqT.of ha,q08 (j:=2) rfl,_,rfl,y,_,rfl,dgY (I.hy rfl) (q3p ..),_,rfl,a,_,_,_,rfl,rfl,SqT.of ha,q08 (j:=1) rfl,A.wd,_,rfl,.inl ⟨_,Sum.inr x,I.hwd rfl,rfl,lw _,rfl⟩,?_⟩
    refine⟨(by show 0≤sizeLine;decide),fun p hp=> ?_⟩
    have Jn:=I.newW (p:=p) ew hl0 S0 hp
    have nyw:y ≠ A.wd:=fun z=>by have h1:=I.twd;rw[← z,I.ty]at h1;cases h1
    have naw:a ≠ A.wd:=q30 ha (I.hwd rfl) (by intro z;cases z)
    have ntw:A.td ≠ A.wd:=fun z=>by have h1:=I.ttd;rw[z,I.twd]at h1;cases h1
    have kn:∀ {o:HO},Kp [] (upd H2 A.wd o) (upd (upd H2 A.wd o) p (.lst []))∨True:=fun {o}=> .inr trivial
    have hy2:(upd (upd H2 A.wd (.dK (putK (wkT R.works A.wa) (Sum.inr x:Key) (.ref l)))) p (.lst [])) y=some (.dK (yT A.th R.bound R.up A.lo A.ky A.wd A.td A.ti)):=(Kp.new (ex:=[]) hp).get (by rw[q0b nyw];exact I.hy rfl) nEm
    have ha2:(upd (upd H2 A.wd (.dK (putK (wkT R.works A.wa) (Sum.inr x:Key) (.ref l)))) p (.lst [])) a=some (.tup [.str "start",.str x,.ref l]):=(Kp.new (ex:=[]) hp).get (by rw[q0b naw];exact ha) nEm
    have htd2:(upd (upd H2 A.wd (.dK (putK (wkT R.works A.wa) (Sum.inr x:Key) (.ref l)))) p (.lst [])) A.td=some (.dK (wkT R.works A.ta)):=(Kp.new (ex:=[]) hp).get (by rw[q0b ntw];exact I.htd rfl) nEm
    exact⟨_,rfl,y,_,rfl,dgY hy2 (q5e ..),_,rfl,a,_,_,_,rfl,rfl,SqT.of ha2,q08 (j:=1) rfl,A.td,_,rfl,.inl ⟨_,Sum.inr x,htd2,rfl,lw _,rfl⟩,k _ _ _ rfl Jn⟩
  | go x luck =>
   have ha:H a=some (.tup [.str "go",.str x,.str luck]):=hdA
   refine⟨_,rfl,a,_,_,_,rfl,rfl,SqT.of ha,q08 (j:=0) rfl,rfl,_,rfl,q14 (no n1) ?_⟩
   refine⟨_,rfl,a,_,_,_,rfl,rfl,SqT.of ha,q08 (j:=0) rfl,rfl,_,rfl,iteD rfl ?_⟩
   exact⟨_,rfl,_,rfl,a,_,_,_,rfl,rfl,SqT.of ha,q08 (j:=1) rfl,_,rfl,a,_,_,_,rfl,rfl,SqT.of ha,q08 (j:=2) rfl,y,x,luck,H0,R,tw,A,c,n,rfl,I,Y,hn,fun v H' h1 h2=>k v H' A h1 h2⟩
  | late i =>
   have ha:H a=some (.tup [.str "late",.int i]):=hdA
   have hi0:0≤i:=ok
   obtain⟨m,rfl⟩:∃ m:Nat,i=(m:Int):=⟨i.toNat,by omega⟩
   obtain⟨al,hlo,LL⟩:=I.hlo rfl
   have ed:q1j R (.late (m:Int))=match R.lost[m]? with
    | some (d,q)=>(.str (q0r R d q).1,(q0r R d q).2)
    | none=>(.non,R):=by
    show q2l R m=_
    unfold q2l
    rw[if_neg (by omega),Int.toNat_natCast] <;> rfl
   rw[ed]at k
   have et:qb1 R tw (.late (m:Int))=tw:=rfl
   rw[et]at k
   refine⟨_,rfl,a,_,_,_,rfl,rfl,SqT.of ha,q08 (j:=0) rfl,rfl,_,rfl,q14 (no n2) ?_⟩
   refine⟨_,rfl,a,_,_,_,rfl,rfl,SqT.of ha,q08 (j:=0) rfl,rfl,_,rfl,q14 (no n3) ?_⟩
   refine⟨_,rfl,a,_,_,_,rfl,rfl,SqT.of ha,q08 (j:=0) rfl,rfl,_,rfl,iteD rfl ?_⟩
   refine⟨_,rfl,a,_,_,_,rfl,rfl,SqT.of ha,q08 (j:=1) rfl,_,rfl,y,_,rfl,dgY (I.hy rfl) (q5l ..),A.lo,_,rfl,.inl (SqL.of hlo),_,_,rfl,rfl,_,rfl,?_⟩
   by_cases hm:m < al.length
   ·refine q14 (by rw[List.length_map];omega) ?_
    have hm2:m < R.lost.length:=by rw[← LL.len];exact hm
    have e1:al[m]? = some al[m]:=List.getElem?_eq_getElem hm
    have e2:R.lost[m]? = some R.lost[m]:=List.getElem?_eq_getElem hm2
    generalize al[m]=la at e1
    generalize R.lost[m]=qq at e2
    obtain⟨b,h1,h2⟩:=LL.at_ m la qq e1 e2
    obtain⟨L,ci⟩:=Y.ci
    obtain⟨x,ss,hw,j,sp,u,hs,ep⟩:=ci.ls qq (List.mem_of_getElem? e2)
    subst ep
    dsimp only at h1 h2
    obtain⟨dn,T,F,hdn,D⟩:=qgo I Y hn hw hs u h2
    rw[e2]at k
    dsimp only at k
    rw[hdn]at h1 k
    have ev:(al.map V.ref)[m]? = some (V.ref la):=by rw[List.getElem?_map,e1];rfl
    exact⟨_,rfl,_,rfl,y,_,rfl,dgY (I.hy rfl) (q5l ..),_,rfl,a,_,_,_,rfl,rfl,SqT.of ha,q08 (j:=1) rfl,A.lo,_,_,_,rfl,rfl,SqL.of hlo,q08 (j:=m) ev,la,_,_,_,rfl,rfl,SqT.of h1,q08 (j:=0) rfl,
     _,rfl,y,_,rfl,dgY (I.hy rfl) (q5l ..),_,rfl,a,_,_,_,rfl,rfl,SqT.of ha,q08 (j:=1) rfl,A.lo,_,_,_,rfl,rfl,SqL.of hlo,q08 (j:=m) ev,la,_,_,_,rfl,rfl,SqT.of h1,q08 (j:=1) rfl,
     y,b,dn,H0,R,tw,A,_,T,F,rfl,D,fun H' J=>k _ H' A rfl J⟩
   ·refine iteD (by rw[List.length_map];omega) ?_
    rw[List.getElem?_eq_none (by rw[← LL.len];omega)]at k
    exact k _ H A rfl I
  | fill d x m =>
   have ha:H a=some (.tup [.str "fill",.int d,.str x,.int m]):=hdA
   have ed:q1j R (.fill d x m)=q28 R d x m:=rfl
   have et:qb1 R tw (.fill d x m)=tw:=rfl
   rw[ed,et]at k
   unfold q28 at k
   refine⟨_,rfl,a,_,_,_,rfl,rfl,SqT.of ha,q08 (j:=0) rfl,rfl,_,rfl,q14 (no n4) ?_⟩
   refine⟨_,rfl,a,_,_,_,rfl,rfl,SqT.of ha,q08 (j:=0) rfl,rfl,_,rfl,q14 (no n5) ?_⟩
   refine⟨_,rfl,a,_,_,_,rfl,rfl,SqT.of ha,q08 (j:=0) rfl,rfl,_,rfl,q14 (no n6) ?_⟩
   refine⟨_,rfl,a,_,_,_,rfl,rfl,SqT.of ha,q08 (j:=0) rfl,rfl,_,rfl,iteD rfl ?_⟩
   refine⟨_,rfl,a,_,_,_,rfl,rfl,SqT.of ha,q08 (j:=1) rfl,_,_,rfl,rfl,_,rfl,?_⟩
   by_cases h0:d < 0
   ·have hi:¬ inD R d=true:=by unfold inD;rw[decide_eq_false (by omega:¬ 0≤d)];simp
    rw[if_neg hi]at k
    exact iteD h0 (k _ H A rfl I)
   refine q14 h0 ?_
   refine⟨_,rfl,a,_,_,_,rfl,rfl,SqT.of ha,q08 (j:=1) rfl,_,rfl,y,_,rfl,dgY (I.hy rfl) (q3c ..),A.th,_,rfl,.inl (SqL.of hth),_,_,rfl,rfl,_,rfl,?_⟩
   rw[lth]
   by_cases h1:d ≥ (c:Int)
   ·have hi:¬ inD R d=true:=by unfold inD;rw[decide_eq_false (by omega:¬ d < R.desks.length)];simp
    rw[if_neg hi]at k
    exact iteD h1 (k _ H A rfl I)
   refine q14 h1 ?_
   have hi:inD R d=true:=by unfold inD;rw[decide_eq_true (by omega:0≤d),decide_eq_true (by omega:d < R.desks.length)];rfl
   rw[if_pos hi]at k
   obtain⟨dn,rfl⟩:∃ dn:Nat,d=(dn:Int):=⟨d.toNat,by omega⟩
   have hdl:dn < R.desks.length:=by omega
   have e2:R.desks[dn]? = some (R.desks[dn].1,R.desks[dn].2):=List.getElem?_eq_getElem hdl
   generalize R.desks[dn].1=T at e2
   generalize R.desks[dn].2=F at e2
   rw[Int.toNat_natCast,e2]at k
   dsimp only at k
   have hdt:dn < A.tas.length:=by rw[I.lt];exact hdl
   have e1:A.tas[dn]? = some A.tas[dn]:=List.getElem?_eq_getElem hdt
   generalize A.tas[dn]=ca at e1
   obtain⟨_,hca⟩:=I.dk dn ca T F e1 e2 rfl
   have okD:=Y.ok.ok T F (List.mem_of_getElem? e2)
   have J:=I.putT (T':=putK T (Sum.inr x:Key) (.int (getI T x + m))) e1 e2
   refine⟨_,rfl,y,_,rfl,dgY (I.hy rfl) (q3c ..),_,rfl,a,_,_,_,rfl,rfl,SqT.of ha,q08 (j:=1) rfl,A.th,_,_,_,rfl,rfl,SqL.of hth,q08 (j:=dn) (by rw[List.getElem?_map,e1];rfl),?_⟩
   refine⟨_,rfl,ca,rfl,.inl ⟨_,.inl hca⟩,_,rfl,a,_,_,_,rfl,rfl,SqT.of ha,q08 (j:=2) rfl,_,DGet.k (k:=Sum.inr x) hca,_,rfl,a,_,_,_,rfl,rfl,SqT.of ha,q08 (j:=3) rfl,getI T x,m,okD.i.get x,rfl,?_⟩
   exact⟨_,rfl,_,rfl,a,_,_,_,rfl,rfl,SqT.of ha,q08 (j:=2) rfl,ca,_,rfl,.inl ⟨_,Sum.inr x,hca,rfl,q0n (by have:=okD.lt;omega),rfl⟩,k _ _ A rfl J⟩
  | stop =>
   have ha:H a=some (.tup [.str "stop"]):=hdA
   rw[qj2 Y.us]at k
   refine⟨_,rfl,a,_,_,_,rfl,rfl,SqT.of ha,q08 (j:=0) rfl,rfl,_,rfl,q14 (no n7) ?_⟩
   refine⟨_,rfl,a,_,_,_,rfl,rfl,SqT.of ha,q08 (j:=0) rfl,rfl,_,rfl,q14 (no n8) ?_⟩
   refine⟨_,rfl,a,_,_,_,rfl,rfl,SqT.of ha,q08 (j:=0) rfl,rfl,_,rfl,q14 (no n9) ?_⟩
   refine⟨_,rfl,a,_,_,_,rfl,rfl,SqT.of ha,q08 (j:=0) rfl,rfl,_,rfl,q14 (no n10) ?_⟩
   refine⟨_,rfl,y,_,rfl,dgY (I.hy rfl) (qcr ..),?_⟩
   have nay:a ≠ y:=q30 ha (I.hy rfl) (by intro z;cases z)
   have J1:=I.putU false
   have ew:(decide (V.str "stop" = V.str "wake"))=false:=decide_eq_false (no n16)
   refine⟨_,rfl,a,_,_,_,rfl,rfl,SqT.of ha,q08 (j:=0) rfl,rfl,_,rfl,y,_,rfl,.inl ⟨_,Sum.inr "up",I.hy rfl,rfl,q0n (by show 8≤900;decide),rfl⟩,?_⟩
   rw[ew,qk6]
   have ha1:(upd H y (.dK (yT A.th R.bound false A.lo A.ky A.wd A.td A.ti))) a=some (.tup [.str "stop"]):=by rw[q0b nay];exact ha
   have hy1:(upd H y (.dK (yT A.th R.bound false A.lo A.ky A.wd A.td A.ti))) y=some (.dK (yT A.th R.bound false A.lo A.ky A.wd A.td A.ti)):=q03
   generalize upd H y (.dK (yT A.th R.bound false A.lo A.ky A.wd A.td A.ti))=H1 at J1 ha1 hy1
   refine⟨_,rfl,a,_,_,_,rfl,rfl,SqT.of ha1,q08 (j:=0) rfl,rfl,_,rfl,iteD rfl ?_⟩
   refine fun p hp=>⟨_,rfl,y,_,rfl,.inl ⟨_,Sum.inr "tries",(Kp.new (ex:=[]) hp).get hy1 nEm,rfl,q0n (by show 8≤900;decide),rfl⟩,?_⟩
   rw[qf5]
   have J2:=(J1.newI hp).tries []
   refine⟨_,rfl,_,rfl,y,_,rfl,dgY q03 (qcr ..),rfl,k _ _ _ ?_ J2⟩
   show V.bl _=V.bl R.up
   cases R.up <;> rfl
  | wake =>
   have ha:H a=some (.tup [.str "wake"]):=hdA
   rw[qia]at k
   refine⟨_,rfl,a,_,_,_,rfl,rfl,SqT.of ha,q08 (j:=0) rfl,rfl,_,rfl,q14 (no n11) ?_⟩
   refine⟨_,rfl,a,_,_,_,rfl,rfl,SqT.of ha,q08 (j:=0) rfl,rfl,_,rfl,q14 (no n12) ?_⟩
   refine⟨_,rfl,a,_,_,_,rfl,rfl,SqT.of ha,q08 (j:=0) rfl,rfl,_,rfl,q14 (no n13) ?_⟩
   refine⟨_,rfl,a,_,_,_,rfl,rfl,SqT.of ha,q08 (j:=0) rfl,rfl,_,rfl,q14 (no n14) ?_⟩
   refine⟨_,rfl,y,_,rfl,dgY (I.hy rfl) (qcr ..),?_⟩
   have nay:a ≠ y:=q30 ha (I.hy rfl) (by intro z;cases z)
   have J1:=I.putU true
   have ew:(decide (V.str "wake" = V.str "wake"))=true:=decide_eq_true rfl
   refine⟨_,rfl,a,_,_,_,rfl,rfl,SqT.of ha,q08 (j:=0) rfl,rfl,_,rfl,y,_,rfl,.inl ⟨_,Sum.inr "up",I.hy rfl,rfl,q0n (by show 8≤900;decide),rfl⟩,?_⟩
   rw[ew,qk6]
   have ha1:(upd H y (.dK (yT A.th R.bound true A.lo A.ky A.wd A.td A.ti))) a=some (.tup [.str "wake"]):=by rw[q0b nay];exact ha
   have hy1:(upd H y (.dK (yT A.th R.bound true A.lo A.ky A.wd A.td A.ti))) y=some (.dK (yT A.th R.bound true A.lo A.ky A.wd A.td A.ti)):=q03
   generalize upd H y (.dK (yT A.th R.bound true A.lo A.ky A.wd A.td A.ti))=H1 at J1 ha1 hy1
   refine⟨_,rfl,a,_,_,_,rfl,rfl,SqT.of ha1,q08 (j:=0) rfl,rfl,_,rfl,q14 (no n15) ?_⟩
   refine⟨_,rfl,_,rfl,y,_,rfl,dgY hy1 (qcr ..),rfl,k _ _ A ?_ J1⟩
   show V.bl _=V.bl (!R.up)
   cases R.up <;> rfl
end
end K07
end
section
namespace K07
open PySem L2
section
variable {P:Program} {w:World} {K:PySem.W.Frag} {mg:Str→Option Value} {base:Heap}
theorem q8y {td ty tv:TE} {u:TS} {D:Ends} {σ:St} {H:Hp} (h:tv σ H fun v H1=>td σ H1 fun x H2=>ty σ H2 fun y H3=>∃ a H4,x= .ref a∧DPut H3 a y v H4∧u D σ H4):tSeq (qi0 td ty tv) u D σ H:=h
def tgF (l:List (Addr×Tg)) (b:Addr):Tg:=((l.find? fun kv=>decide (kv.1=b)).map (·.2)).getD .no
theorem qke {l:List (Addr×Tg)} {b:Addr} {t:Tg} (nd:(l.map (·.1)).Nodup) (h:(b,t) ∈ l):tgF l b=t:=by
 unfold tgF
 rw[q2f nd h]
 rfl
theorem qkk {l:List (Addr×Tg)} {b:Addr} (h:b ∉ l.map (·.1)):tgF l b= .no:=by
 unfold tgF
 cases e:l.find? fun kv=>decide (kv.1=b) with
 | none=>rfl
 | some kv =>
  have h1:=List.find?_some e
  have h1:=of_decide_eq_true h1
  exact absurd (List.mem_map.mpr ⟨kv,List.mem_of_find?_eq_some e,h1⟩) h
def zs (f:Nat→Tg) (as:List Addr):List (Addr×Tg):=as.zipIdx.map fun p=>(p.1,f p.2)
theorem qjl (f:Nat→Tg) (as:List Addr):(zs f as).map (·.1)=as:=by
 unfold zs
 rw[List.map_map]
 have:((fun p:Addr×Tg=>p.1) ∘ fun p:Addr×Nat=>(p.1,f p.2))=Prod.fst:=rfl
 rw[this,List.zipIdx_map_fst]
theorem qkj {f:Nat→Tg} {as:List Addr} {i:Nat} {a:Addr} (h:as[i]? = some a):(a,f i) ∈ zs f as:=by
 unfold zs
 refine List.mem_map.mpr ⟨(a,i),?_,rfl⟩
 rw[List.mem_zipIdx_iff_getElem?]
 exact h
structure Fr (H0 H:Hp) (l:List Addr):Prop where
 nd:l.Nodup
 no:∀ a ∈ l,H0 a=none
 yes:∀ a ∈ l,H a ≠ none
def Up (H H':Hp):Prop:=∀ b,H b ≠ none→H' b ≠ none
theorem Up.kp {H H':Hp} (k:Kp [] H H'):Up H H':=fun b h=>by
 cases e:H b with
 | none=>exact absurd e h
 | some o=>rw[k.get e nEm];simp
theorem Up.upd {H:Hp} {a:Addr} {o:HO}:Up H (upd H a o):=fun b h=>by
 by_cases e:b=a
 ·subst e;rw[q03];simp
 ·rw[q0b e];exact h
theorem Up.trans {H H1 H2:Hp} (a:Up H H1) (b:Up H1 H2):Up H H2:=fun c h=>b c (a c h)
theorem Fr.up {H0 H H':Hp} {l:List Addr} (h:Fr H0 H l) (u:Up H H'):Fr H0 H' l:=⟨h.nd,h.no,fun a ha=>u a (h.yes a ha)⟩
theorem Fr.app {H0 H H':Hp} {l m:List Addr} (h:Fr H0 H l) (h':Fr H H' m) (u0:Up H0 H) (u:Up H H'):Fr H0 H' (l ++ m):=by
 refine⟨List.nodup_append.mpr ⟨h.nd,h'.nd,fun a ha b hb z=>h.yes a ha (z ▸ h'.no b hb)⟩,fun a ha=> ?_,fun a ha=> ?_⟩
 ·rcases List.mem_append.mp ha with z | z
  ·exact h.no a z
  ·cases e:H0 a with
   | none=>rfl
   | some o=>exact absurd (h'.no a z) (u0 a (by rw[e];simp))
 ·rcases List.mem_append.mp ha with z | z
  ·exact u a (h.yes a z)
  ·exact h'.yes a z
theorem Fr.one {H:Hp} {a:Addr} {o:HO} (h:H a=none):Fr H (L2.upd H a o) [a]:=⟨by simp,fun b hb=>by simp at hb;rw[hb];exact h,fun b hb=>by simp at hb;subst hb;rw[q03];simp⟩
def qgv:Sp:=fun vs H Q _=>∃ (l:Addr) (b:Int) (as:List Addr) (Ts:List Tb),vs=[.ref l,.int b]∧H l=some (.lst (as.map V.ref))∧Stocks H as Ts∧Ts.length≤900∧∀ y A H',YP exN H H' y (newR Ts b) [] A→Q (.ref y) H'
theorem qec:FnScope ["_law_stocks","_law_bound","_law_yard"] ["_law_stocks","_law_bound"] (q06 sNew):=⟨rfl,rfl,rfl,by decide +kernel,rfl,by decide +kernel,by decide +kernel⟩
theorem qi7 {f:Addr} {fd:FuncData} (Fn:Fun K "_law_new" "_law_new" sNew f fd) (B:Blt mg) (Dlaw_copied:Df P w K mg base CX0 1 "_law_copied" ["_law_stocks"] q75):FnOk P w K mg base CX0 2 f fd ["_law_stocks","_law_bound"] qgv:=by
 refine Fn.ok qec (fun vs H Q E h=> ?_) (fun cdv A' outer s H vs Q E hr h=> ?_)
 ·obtain⟨l,b,as,Ts,rfl,_⟩:=h
  rfl
 ·obtain⟨l,b,as,Ts,rfl,hl,S,hz,k⟩:=h
  have nd:=qec.nd
  have hu:=q3f hr
  refine⟨_,(q01 (q0s (i:=2) nd rfl (Or.inl rfl) (qd3 (q47 q09 (q18 Dlaw_copied (hr.mono (by decide)) q0z (q00 (pv 0) q05)) (q47 q09 (pv 1) (q47 q09 q1k (q47 q09 (q1t q05) qc5)))) rfl rfl (by simp) (by decide)))
   (q01 (q1e hu (pv 2) q09 (q37 (NB:=["_law_things"]) (ix:=[none]) rfl ⟨rfl,rfl,by decide +kernel,by decide +kernel,trivial,rfl,rfl,rfl,trivial⟩ (q1l (pv 0)) (fun _ _ _ _ _=>(q0x (i:=0) (show (["_law_things"]:List Str).Nodup by decide +kernel) rfl (Or.inl rfl))) (fun _ _ _ _ _=>q3b) (fun _ _ _ _ _=>(q1t q05))) rfl)
   (q01 (q1e hu (pv 2) q09 q2y rfl)
   (q01 (q1e hu (pv 2) q09 q2y rfl)
   (q01 (q1e hu (pv 2) q09 q2y rfl)
   (q07 (q0a (pv 2)))))))),?_⟩
  refine fun y hy=> ?_
  have k1:Kp [] H (upd H y (.dK [])):=Kp.new hy
  have F1:Fr H (upd H y (.dK [])) [y]:=Fr.one hy
  have hy1:(upd H y (.dK [])) y=some (.dK []):=q03
  generalize upd H y (.dK [])=H1 at k1 F1 hy1
  refine⟨_,rfl,l,as,Ts,rfl,k1.get hl nEm,S.same k1,hz,fun th cas H2 hth hth2 S2 k2 nw=> ?_⟩
  have F2:Fr H1 H2 (th :: cas):=by
   refine⟨List.nodup_cons.mpr ⟨fun z=> ?_,nw.1⟩,fun a ha=> ?_,fun a ha=> ?_⟩
   ·obtain⟨i,ei⟩:=List.mem_iff_getElem?.mp z
    have hi:i < Ts.length:=by rw[← S2.len];exact(List.getElem?_eq_some_iff.mp ei).1
    have:=S2.at_ i th _ ei (List.getElem?_eq_getElem hi)
    rw[hth2]at this
    cases this
   ·rcases List.mem_cons.mp ha with z | z
    ·rw[z];exact hth
    ·exact nw.2 a z
   ·rcases List.mem_cons.mp ha with z | z
    ·rw[z,hth2];simp
    ·obtain⟨i,ei⟩:=List.mem_iff_getElem?.mp z
     have hi:i < Ts.length:=by rw[← S2.len];exact(List.getElem?_eq_some_iff.mp ei).1
     rw[S2.at_ i a _ ei (List.getElem?_eq_getElem hi)]
     simp
  have F12:=F1.app F2 (Up.kp k1) (Up.kp k2)
  have k02:=k1.trans k2
  refine⟨_,rfl,(by show 0≤sizeLine;decide),fun lo hlo=> ?_⟩
  have k3:Kp [] H2 (upd H2 lo (.lst [])):=Kp.new hlo
  have F3:Fr H2 (upd H2 lo (.lst [])) [lo]:=Fr.one hlo
  have hlo3:(upd H2 lo (.lst [])) lo=some (.lst []):=q03
  generalize upd H2 lo (.lst [])=H3 at k3 F3 hlo3
  have F13:=F12.app F3 (Up.kp k02) (Up.kp k3)
  have k03:=k02.trans k3
  have hy3:=k3.get (k2.get hy1 (by simp)) nEm
  refine⟨hy3,[(Sum.inr "things",V.ref th),(Sum.inr "bound",V.int b),(Sum.inr "up",V.bl true),(Sum.inr "lost",V.ref lo)],rfl,(by show 4≤15;decide),?_⟩
  obtain⟨m1,hm1⟩:∃ m:Tb,m=q5g [] [((Sum.inr "things" : Key),V.ref th),(Sum.inr "bound",V.int b),(Sum.inr "up",V.bl true),(Sum.inr "lost",V.ref lo)]:=⟨_,rfl⟩
  have l1:m1.length≤4:=by rw[hm1];exact Nat.le_of_eq (by with_unfolding_all rfl)
  rw[← hm1]
  have ky:∀ {Ha:Hp} {o:HO},Kp [y] Ha (upd Ha y o):=fun {Ha o}=>Kp.put (List.Mem.head _)
  have wk:∀ {Ha Hb:Hp},Kp [] Ha Hb→Kp [y] Ha Hb:=fun {Ha Hb} k b o e _=>k.get e nEm
  have hyN:∀ {a:Addr} {o:HO},H a=some o→a ∉ [y]:=fun {a o} e z=>by simp at z;subst z;rw[hy]at e;cases e
  have q3:Kp [y] H3 (upd H3 y (.dK m1)):=ky
  have hy4:(upd H3 y (.dK m1)) y=some (.dK m1):=q03
  have F14:=F13.up (Up.upd (a:=y) (o:= .dK m1))
  have u4:Up H (upd H3 y (.dK m1)):=(Up.kp k03).trans Up.upd
  have q04:Kp [y] H (upd H3 y (.dK m1)):=(wk k03).trans q3
  generalize upd H3 y (.dK m1)=H4 at q3 hy4 F14 u4 q04
  have hl4:=q04 l _ hl (hyN hl)
  refine qk1 ?_
  refine q8y ?_
  refine q4e (K:=K) (j:=0) (a:=l) (xs:=as.map V.ref) rfl (SqL.of hl4) fun D0 hD=>⟨(fun i σ ys H5=>∃ (v0:Option V) (kas:List Addr),σ=[v0]∧ys=kas.map V.ref∧kas.length=i∧Kp [] H4 H5∧H5 D0=some (.lst ys)∧(∀ q ∈ kas,H5 q=some (.lst []))∧Fr H4 H5 (D0 :: kas)),?_,?_,?_,?_⟩
  ·exact⟨none,[],rfl,rfl,rfl,Kp.new hD,q03,(fun q hq=>by simp at hq),Fr.one hD⟩
  ·rintro i σ ys H5 _ ⟨v0,kas,rfl,rfl,e1,k5,h5,h6,F5⟩
   exact⟨SqL.of (k5.get hl4 nEm),h5⟩
  ·rintro i x σ ys H5 hx ⟨v0,kas,rfl,rfl,e1,k5,h5,h6,F5⟩
   have hi:i < as.length:=by have:=(List.getElem?_eq_some_iff.mp hx).1;rw[List.length_map]at this;exact this
   refine⟨(by show 0≤sizeLine;decide),fun p hp=> ?_⟩
   have kp5:Kp [] H5 (upd H5 p (.lst [])):=Kp.new hp
   have nD:D0 ≠ p:=q0d h5 hp
   have h5':=kp5.get h5 nEm
   have Fp:Fr H5 (upd H5 p (.lst [])) [p]:=Fr.one hp
   have F6:=F5.app Fp (Up.kp k5) (Up.kp kp5)
   have hpp:(upd H5 p (.lst [])) p=some (.lst []):=q03
   generalize upd H5 p (.lst [])=H6 at kp5 h5' F6 hpp
   refine⟨h5',(by rw[List.length_map,e1];exact q0n (by rw[S.len]at hi;omega)),_,kas ++ [p],rfl,by rw[List.map_append];rfl,by rw[List.length_append,e1];rfl,fun b o e _=> ?_,q03,fun q hq=> ?_,F6.up Up.upd⟩
   ·rw[q0b (q0d e hD)]
    exact(k5.trans kp5).get e nEm
   ·have nq:q ≠ D0:=fun z=>by
     have:=(List.nodup_cons.mp F6.nd).1
     exact this (z ▸ hq)
    rw[q0b nq]
    rcases List.mem_append.mp hq with z | z
    ·exact kp5.get (h6 q z) nEm
    ·simp at z;rw[z];exact hpp
  rintro σ ys H5 ⟨v0,kas,rfl,rfl,e1,k5,h5,h6,F5⟩
  rw[List.length_map,S.len]at e1
  have F15:=F14.app F5 u4 (Up.kp k5)
  have u5:=u4.trans (Up.kp k5)
  have hy5:=k5.get hy4 nEm
  refine⟨_,rfl,y,_,rfl,.inl ⟨_,Sum.inr "keys",hy5,rfl,q0n (by omega),rfl⟩,?_⟩
  obtain⟨m2,hm2⟩:∃ m:Tb,m=putK m1 (Sum.inr "keys" : Key) (.ref D0):=⟨_,rfl⟩
  have l2:m2.length≤5:=by have:=q0o m1 (Sum.inr "keys" : Key) (.ref D0);rw[← hm2]at this;omega
  rw[← hm2]
  have q5:Kp [y] H5 (upd H5 y (.dK m2)):=ky
  have hy6:(upd H5 y (.dK m2)) y=some (.dK m2):=q03
  have F16:=F15.up (Up.upd (a:=y) (o:= .dK m2))
  have u6:Up H (upd H5 y (.dK m2)):=u5.trans Up.upd
  generalize upd H5 y (.dK m2)=H6 at q5 hy6 F16 u6
  refine fun wd hwd=> ?_
  have k7:Kp [] H6 (upd H6 wd (.dK [])):=Kp.new hwd
  have F7:Fr H6 (upd H6 wd (.dK [])) [wd]:=Fr.one hwd
  have hwd7:(upd H6 wd (.dK [])) wd=some (.dK []):=q03
  generalize upd H6 wd (.dK [])=H7 at k7 F7 hwd7
  have F17:=F16.app F7 u6 (Up.kp k7)
  refine⟨_,rfl,y,_,rfl,.inl ⟨_,Sum.inr "works",k7.get hy6 nEm,rfl,q0n (by omega),rfl⟩,?_⟩
  obtain⟨m3,hm3⟩:∃ m:Tb,m=putK m2 (Sum.inr "works" : Key) (.ref wd):=⟨_,rfl⟩
  have l3:m3.length≤6:=by have:=q0o m2 (Sum.inr "works" : Key) (.ref wd);rw[← hm3]at this;omega
  rw[← hm3]
  have q7:Kp [y] H7 (upd H7 y (.dK m3)):=ky
  have hy8:(upd H7 y (.dK m3)) y=some (.dK m3):=q03
  have F18:=F17.up (Up.upd (a:=y) (o:= .dK m3))
  have u8:Up H (upd H7 y (.dK m3)):=(u6.trans (Up.kp k7)).trans Up.upd
  generalize upd H7 y (.dK m3)=H8 at q7 hy8 F18 u8
  refine fun td htd=> ?_
  have k9:Kp [] H8 (upd H8 td (.dK [])):=Kp.new htd
  have F9:Fr H8 (upd H8 td (.dK [])) [td]:=Fr.one htd
  have htd9:(upd H8 td (.dK [])) td=some (.dK []):=q03
  generalize upd H8 td (.dK [])=H9 at k9 F9 htd9
  have F19:=F18.app F9 u8 (Up.kp k9)
  refine⟨_,rfl,y,_,rfl,.inl ⟨_,Sum.inr "trails",k9.get hy8 nEm,rfl,q0n (by omega),rfl⟩,?_⟩
  obtain⟨m4,hm4⟩:∃ m:Tb,m=putK m3 (Sum.inr "trails" : Key) (.ref td):=⟨_,rfl⟩
  have l4:m4.length≤7:=by have:=q0o m3 (Sum.inr "trails" : Key) (.ref td);rw[← hm4]at this;omega
  rw[← hm4]
  have q9:Kp [y] H9 (upd H9 y (.dK m4)):=ky
  have hy10:(upd H9 y (.dK m4)) y=some (.dK m4):=q03
  have F20:=F19.up (Up.upd (a:=y) (o:= .dK m4))
  have u10:Up H (upd H9 y (.dK m4)):=(u8.trans (Up.kp k9)).trans Up.upd
  generalize upd H9 y (.dK m4)=H10 at q9 hy10 F20 u10
  refine fun ti hti=> ?_
  have k11:Kp [] H10 (upd H10 ti (.dK [])):=Kp.new hti
  have F11:Fr H10 (upd H10 ti (.dK [])) [ti]:=Fr.one hti
  have hti11:(upd H10 ti (.dK [])) ti=some (.dK []):=q03
  generalize upd H10 ti (.dK [])=H11 at k11 F11 hti11
  have F21:=F20.app F11 u10 (Up.kp k11)
  refine⟨_,rfl,y,_,rfl,.inl ⟨_,Sum.inr "tries",k11.get hy10 nEm,rfl,q0n (by omega),rfl⟩,?_⟩
  have em:putK m4 (Sum.inr "tries" : Key) (.ref ti)=yT th b true lo D0 wd td ti:=by
   rw[hm4,hm3,hm2,hm1]
   exact ql4 ..
  rw[em]
  have q11:Kp [y] H11 (upd H11 y (.dK (yT th b true lo D0 wd td ti))):=ky
  have hy12:(upd H11 y (.dK (yT th b true lo D0 wd td ti))) y=some (.dK (yT th b true lo D0 wd td ti)):=q03
  have F22:=F21.up (Up.upd (a:=y) (o:= .dK (yT th b true lo D0 wd td ti)))
  generalize upd H11 y (.dK (yT th b true lo D0 wd td ti))=H12 at q11 hy12 F22
  clear em l1 l2 l3 l4 hm1 hm2 hm3 hm4 u4 u5 u6 u8 u10 F1 F2 F3 F5 F7 F9 F11 F12 F13 F14 F15 F16 F17 F18 F19 F20 F21
  have p10:Kp [y] H10 H12:=(wk k11).trans q11
  have p8:Kp [y] H8 H12:=((wk k9).trans q9).trans p10
  have p9:Kp [y] H9 H12:=q9.trans p10
  have p7:Kp [y] H7 H12:=q7.trans p8
  have p6:Kp [y] H6 H12:=((wk k7).trans q7).trans p8
  have p5:Kp [y] H5 H12:=q5.trans p6
  have p3:Kp [y] H3 H12:=(q3.trans (wk k5)).trans p5
  have p2:Kp [y] H2 H12:=(wk k3).trans p3
  have p0:Kp [y] H H12:=(wk k03).trans p3
  obtain⟨tl,htl⟩:∃ tl:List (Addr×Tg),tl=(y,.run) :: ((th,.dl) :: zs .stock cas) ++ [(lo,.lost)] ++ ((D0,.desk) :: zs .fates kas) ++ [(wd,.works)] ++ [(td,.trails)] ++ [(ti,.tries)]:=⟨_,rfl⟩
  refine⟨_,rfl,k y ⟨tgF tl,th,D0,wd,td,ti,lo,cas,kas,fun _=>y,fun _=>y⟩ H12 ?_⟩
  have ml:tl.map (·.1)=[y] ++ (th :: cas) ++ [lo] ++ (D0 :: kas) ++ [wd] ++ [td] ++ [ti]:=by
   rw[htl]
   simp only[List.map_append,List.map_cons,List.map_nil,qjl,List.cons_append,List.nil_append]
  have nA:=F22.nd
  rw[← ml]at nA
  have nyA:∀ a,a ∈ (th :: cas) ++ [lo] ++ (D0 :: kas) ++ [wd] ++ [td] ++ [ti]→a ∉ [y]:=fun a ha z=>by
   simp only[List.mem_singleton]at z
   subst z
   have:=F22.nd
   simp only[List.append_assoc,List.cons_append,List.nil_append]at this ha
   exact(List.nodup_cons.mp this).1 ha
  have tg:∀ {a:Addr} {t:Tg},(a,t) ∈ tl→tgF tl a=t:=fun h=>qke nA h
  have eT:∀ (i:Nat) T F,(newR Ts b).desks[i]? = some (T,F)→Ts[i]? = some T∧F=[]:=fun i T F e=>by
   have e:(Ts.map fun T=>(T,([]:Fb)))[i]? = some (T,F):=e
   rw[List.getElem?_map]at e
   cases et:Ts[i]? with
   | none=>rw[et]at e;cases e
   | some T'=>rw[et]at e;cases e;exact⟨rfl,rfl⟩
  have lnew:(newR Ts b).desks.length=Ts.length:=by simp[newR]
  refine⟨fun a o e _=>p0 a o e (hyN e),fun a o e=>qkk fun z=> ?_,tg (by rw[htl];simp),fun _=>hy12,tg (by rw[htl];simp),fun _=>p2 _ _ hth2 (nyA _ (by simp)),tg (by rw[htl];simp),fun _=>p5 _ _ h5 (nyA _ (by simp)),S2.len.trans lnew.symm,e1.trans lnew.symm,fun i a T F h1 h2 _=> ?_,fun i q T F h1 h2 _=> ?_,
   tg (by rw[htl];simp),fun _=>p7 _ _ hwd7 (nyA _ (by simp)),(fun x ss hm=>by simp[newR]at hm),tg (by rw[htl];simp),fun _=>p9 _ _ htd9 (nyA _ (by simp)),(fun x ss hm=>by simp[newR]at hm),tg (by rw[htl];simp),fun _=>q11 _ _ hti11 (nyA _ (by simp)),tg (by rw[htl];simp),fun _=>⟨[],p3 _ _ hlo3 (nyA _ (by simp)),⟨rfl,fun i a q e=>by simp at e⟩⟩⟩
  ·rw[ml]at z
   have:=F22.no a z
   rw[e]at this
   cases this
  ·obtain⟨eT1,_⟩:=eT i T F h2
   have hm:(a,Tg.stock i) ∈ zs .stock cas:=qkj h1
   refine⟨tg ?_,p2 _ _ (S2.at_ i a T h1 eT1) (nyA _ ?_)⟩
   ·rw[htl]
    simp[hm]
   ·have:=List.mem_of_getElem? h1
    simp[this]
  ·obtain⟨_,rfl⟩:=eT i T F h2
   have hm:(q,Tg.fates i) ∈ zs .fates kas:=qkj h1
   have hq:=List.mem_of_getElem? h1
   refine⟨tg ?_,[],p5 _ _ (h6 q hq) (nyA _ ?_),⟨rfl,fun i b kv e=>by simp at e⟩⟩
   ·rw[htl]
    simp[hm]
   ·simp[hq]
def qcn:Sp:=fun vs H Q _=>∃ (v1 v2:V) (an:An),vs=[v1,v2]∧AnV H v1 an∧AnV H v2 an∧Q (.bl true) H
theorem q9q:FnScope ["_law_found","_law_due"] ["_law_found","_law_due"] (q06 q6p):=⟨rfl,rfl,rfl,by decide +kernel,rfl,by decide +kernel,by decide +kernel⟩
theorem qeu {f:Addr} {fd:FuncData} (Fn:Fun K "_law_alike" "_law_alike" q6p f fd) (B:Blt mg) (Dlaw_is_entry:Df P w K mg base CX0 2 "_law_is_entry" ["_law_found"] qdo):FnOk P w K mg base CX0 3 f fd ["_law_found","_law_due"] qcn:=by
 refine Fn.ok q9q (fun vs H Q E h=> ?_) (fun cdv A' outer s H vs Q E hr h=> ?_)
 ·obtain⟨v1,v2,an,rfl,_⟩:=h
  rfl
 ·obtain⟨v1,v2,an,rfl,h1,h2,k⟩:=h
  have nd:=q9q.nd
  have hu64:=hr.units
  refine⟨_,(q01 (q0q (q3w (q5q (pv 1)))
   (q07 (q0a (qgw (q5q (pv 0)))))
   q0c)
   (q01 (q0q (q17 (q0e q0t rfl B.isinstance PyProof.Rows.boot_isinstance (q00 (pv 1) (q00 (q10 rfl B.bool PyProof.Rows.boot_bool (v:= .ty "bool") rfl) q05))))
   (q07 (q0a (q4a (q0e q0t rfl B.isinstance PyProof.Rows.boot_isinstance (q00 (pv 0) (q00 (q10 rfl B.bool PyProof.Rows.boot_bool (v:= .ty "bool") rfl) q05))) (q4z (q2z (OpR.or q1i (q9p hu64)) (pv 0) (pv 1) (q0i _))))))
   q0c)
   (q01 (q0q (q17 (q0e q0t rfl B.isinstance PyProof.Rows.boot_isinstance (q00 (pv 1) (q00 (q10 rfl B.str PyProof.Rows.boot_str (v:= .ty "str") rfl) q05))))
   (q07 (q0a (q4a (q0e q0t rfl B.isinstance PyProof.Rows.boot_isinstance (q00 (pv 0) (q00 (q10 rfl B.str PyProof.Rows.boot_str (v:= .ty "str") rfl) q05))) (q4z (q2z (OpR.or q1i (q9p hu64)) (pv 0) (pv 1) (q0i _))))))
   q0c)
   (q07 (q0a (q4a (q18 Dlaw_is_entry (hr.mono (by decide)) q0z (q00 (pv 0) q05)) (q4z (q2z (OpR.or q1i (q9p hu64)) (pv 0) (pv 1) (q0i _))))))))),?_⟩
  cases an with
  | non =>
   obtain rfl:v1= .non:=h1
   obtain rfl:v2= .non:=h2
   exact⟨_,rfl,_,rfl,iteD rfl ⟨_,rfl,k⟩⟩
  | bl b =>
   obtain rfl:v1= .bl b:=h1
   obtain rfl:v2= .bl b:=h2
   refine⟨_,rfl,_,rfl,q14 (by intro z;cases z) ?_⟩
   refine⟨_,rfl,_,_,_,true,rfl,.bl _,q0y (by decide +kernel),_,rfl,iteT ?_⟩
   refine⟨_,rfl,_,_,_,true,rfl,.bl _,q0y (by decide +kernel),_,rfl,iteT ?_⟩
   refine⟨_,rfl,_,rfl,.inl ⟨rfl,?_⟩⟩
   rw[decide_eq_true rfl]
   exact k
  | str x =>
   obtain rfl:v1= .str x:=h1
   obtain rfl:v2= .str x:=h2
   refine⟨_,rfl,_,rfl,q14 (by intro z;cases z) ?_⟩
   refine⟨_,rfl,_,_,_,false,rfl,.str _,q0y (by decide +kernel),_,rfl,iteF ?_⟩
   refine⟨_,rfl,_,_,_,true,rfl,.str _,q0y (by decide +kernel),_,rfl,iteT ?_⟩
   refine⟨_,rfl,_,_,_,true,rfl,.str _,q0y (by decide +kernel),_,rfl,iteT ?_⟩
   refine⟨_,rfl,_,rfl,.inl ⟨rfl,?_⟩⟩
   rw[decide_eq_true rfl]
   exact k
  | en e =>
   obtain⟨a1,rfl,g1⟩:=h1
   obtain⟨a2,rfl,g2⟩:=h2
   refine⟨_,rfl,_,rfl,q14 (by intro z;cases z) ?_⟩
   refine⟨_,rfl,_,_,_,false,rfl,.tup g2,q0y (by decide +kernel),_,rfl,iteF ?_⟩
   refine⟨_,rfl,_,_,_,false,rfl,.tup g2,q0y (by decide +kernel),_,rfl,iteF ?_⟩
   refine⟨_,rfl,a1,e,rfl,g1,_,rfl,iteT ?_⟩
   refine⟨_,rfl,_,rfl,.inr (qgj g1 g2 rfl rfl ?_)⟩
   rw[show (eqV (.str e.1) (.str e.1) && eqV (.int e.2) (.int e.2))=true by show ((e.1 == e.1) && (e.2 == e.2))=true;simp]
   exact k
end
end K07
end
section
namespace K07
open PySem L2
section
variable {P:Program} {w:World} {K:PySem.W.Frag} {mg:Str→Option Value} {base:Heap}
def qfn (K:PySem.W.Frag):Sp:=fun vs H Q _=>∃ (a:Addr) (ns:List Int),vs=[.ref a]∧Scr K H a ns∧ns.length≤63∧∀ H',Q (.bl true) H'
theorem qh3:FnScope ["_law_script","_law_count","_law_stocks","_law_bound","_law_deeds","_law_handed","_law_asked","_law_told","_law_yard","_law_k","_law_things","_law_keys","_law_trails","_law_left","_law_names","_law_lost"] ["_law_script"] (q06 sLaw):=⟨rfl,rfl,rfl,by decide +kernel,rfl,by decide +kernel,by decide +kernel⟩
structure Uses (C Cd:Addr) (P:Program) (w:World) (K:PySem.W.Frag) (mg:Str→Option Value) (base:Heap):Prop where
 Dlaw_at:Df P w K mg base CX0 1 "_law_at" ["_law_script","_law_k"] (spAt K)
 Dlaw_stocks_of:Df P w K mg base CX0 2 "_law_stocks_of" ["_law_cell","_law_count"] qa1
 Dlaw_drawn:Df P w K mg base CX0 4 "_law_drawn" ["_law_script","_law_count"] (qby K)
 Dlaw_copied:Df P w K mg base CX0 1 "_law_copied" ["_law_stocks"] q75
 Dlaw_copy:Df P w K mg base CX0 1 "_law_copy" ["_law_deeds"] qgm
 Danswers:Df P w K mg base CX0 11 "answers" ["stocks","bound","deeds"] (q8k C Cd)
 Dlaw_new:Df P w K mg base CX0 2 "_law_new" ["_law_stocks","_law_bound"] qgv
 Dlaw_alike:Df P w K mg base CX0 3 "_law_alike" ["_law_found","_law_due"] qcn
 Dlaw_due_answer:Df P w K mg base CX0 4 "_law_due_answer" ["_law_yard","_law_deed"] qlc
 Dthings_after:Df P w K mg base CX0 12 "things_after" ["stocks","bound","deeds"] qa4
 Dkeys_after:Df P w K mg base CX0 12 "keys_after" ["stocks","bound","deeds"] qh4
 Dtrails_after:Df P w K mg base CX0 12 "trails_after" ["stocks","bound","deeds"] qag
 Dlaw_are_things:Df P w K mg base CX0 2 "_law_are_things" ["_law_found","_law_count"] qcz
 Dlaw_are_keys:Df P w K mg base CX0 2 "_law_are_keys" ["_law_found","_law_count"] qge
 Dlaw_are_trails:Df P w K mg base CX0 3 "_law_are_trails" ["_law_found"] qbz
 Dlost_after:Df P w K mg base CX0 12 "lost_after" ["stocks","bound","deeds"] qgl
 Dlaw_so:Df P w K mg base CX0 4 "_law_so" ["_law_found","_law_meant"] (spSo 3)
def qj5 {f C Cd:Addr} (B:Blt mg) (U:Uses C Cd P w K mg base)
  (nd:(["_law_script","_law_count","_law_stocks","_law_bound","_law_deeds","_law_handed","_law_asked","_law_told","_law_yard","_law_k","_law_things","_law_keys","_law_trails","_law_left","_law_names","_law_lost"]:List Str).Nodup) (cdv:Value) (A:Around) (outer:List Env) (s:Shared) (H:Hp) (E:XK) (hr:Room 12 (A.deeper (PyProof.Rows.envOfC "law" (q06 sLaw) s.heap.objs.size f cdv))) (hu:(A.deeper (PyProof.Rows.envOfC "law" (q06 sLaw) s.heap.objs.size f cdv)).units + 1 < cLine) (hu64:(A.deeper (PyProof.Rows.envOfC "law" (q06 sLaw) s.heap.objs.size f cdv)).units + 64 < cLine) :
  PSigma fun t:TS=>PSs (cxOf CX0 P w K mg base ["_law_script","_law_count","_law_stocks","_law_bound","_law_deeds","_law_handed","_law_asked","_law_told","_law_yard","_law_k","_law_things","_law_keys","_law_trails","_law_left","_law_names","_law_lost"] "law" (q06 sLaw) f cdv A outer s H E).nox (q0g sLaw) t :=
 have Dlaw_at:=U.Dlaw_at
 have Dlaw_stocks_of:=U.Dlaw_stocks_of
 have Dlaw_drawn:=U.Dlaw_drawn
 have Dlaw_copied:=U.Dlaw_copied
 have Dlaw_copy:=U.Dlaw_copy
 have Danswers:=U.Danswers
 have Dlaw_new:=U.Dlaw_new
 have Dlaw_alike:=U.Dlaw_alike
 have Dlaw_due_answer:=U.Dlaw_due_answer
 have Dthings_after:=U.Dthings_after
 have Dkeys_after:=U.Dkeys_after
 have Dtrails_after:=U.Dtrails_after
 have Dlaw_are_things:=U.Dlaw_are_things
 have Dlaw_are_keys:=U.Dlaw_are_keys
 have Dlaw_are_trails:=U.Dlaw_are_trails
 have Dlost_after:=U.Dlost_after
 have Dlaw_so:=U.Dlaw_so
 ⟨_,(q01 (q0s (i:=1) nd rfl (Or.inl rfl) (q0k q13 (q1t (q00 q02 (q00 q02 (q00 q02 (q00 q02 (q00 q02 (q00 q02 (q00 q02 (q00 q02 q05))))))))) (q0l q12 (q0l q12 (q0l q1q (q18 Dlaw_at (hr.mono (by decide)) q0z (q00 (pv 0) (q00 q02 q05))) q02) q02) q02) (fun _ _=>rfl)))
   (q01 (q0s (i:=2) nd rfl (Or.inl rfl) (q18 Dlaw_stocks_of (hr.mono (by decide)) q0z (q00 (q18 Dlaw_at (hr.mono (by decide)) q0z (q00 (pv 0) (q00 q02 q05))) (q00 (pv 1) q05))))
   (q01 (q0s (i:=3) nd rfl (Or.inl rfl) (q0k q13 (q1t (q00 q02 (q00 q02 (q00 q02 (q00 q02 (q00 q02 (q00 q02 q05))))))) (q0l q12 (q0l q12 (q0l q1q (q18 Dlaw_at (hr.mono (by decide)) q0z (q00 (pv 0) (q00 q02 q05))) q02) q02) q02) (fun _ _=>rfl)))
   (q01 (q0s (i:=4) nd rfl (Or.inl rfl) (q18 Dlaw_drawn (hr.mono (by decide)) q0z (q00 (pv 0) (q00 (pv 1) q05))))
   (q01 (q0s (i:=5) nd rfl (Or.inl rfl) (q18 Dlaw_copied (hr.mono (by decide)) q0z (q00 (pv 2) q05)))
   (q01 (q0s (i:=6) nd rfl (Or.inl rfl) (q18 Dlaw_copy (hr.mono (by decide)) q0z (q00 (pv 4) q05)))
   (q01 (q0s (i:=7) nd rfl (Or.inl rfl) (q18 Danswers (hr.mono (by decide)) q0z (q00 (pv 5) (q00 (pv 3) (q00 (pv 6) q05)))))
   (q01 (q0q (PW.pt (q2u (q1g (q17 (q0e q0t rfl B.isinstance PyProof.Rows.boot_isinstance (q00 (pv 7) (q00 (q10 rfl B.list_ PyProof.Rows.boot_list (v:= .ty "list") rfl) q05))))) (q23 (q0f q4c (q0e q0m rfl B.len PySem.boot_len (q00 (pv 7) q05)) (q0e q0m rfl B.len PySem.boot_len (q00 (pv 4) q05)) (q0i _)))))
   (q07 (q0a q1k))
   q0c)
   (q01 (q0s (i:=8) nd rfl (Or.inr rfl) (q18 Dlaw_new (hr.mono (by decide)) q0z (q00 (pv 2) (q00 (pv 3) q05))))
   (q01 (q2e PassesOwn.never rfl (q2h rfl B.range (q00 (q0e q0m rfl B.len PySem.boot_len (q00 (pv 4) q05)) q05)) (q0x (i:=9) nd rfl (Or.inl rfl))
   (q07 (q0q (q1g (q17 (q18 Dlaw_alike (hr.mono (by decide)) q0z (q00 (q0k q13 (pv 7) (pv 9) (fun _ _=>rfl)) (q00 (q18 Dlaw_due_answer (hr.mono (by decide)) q0z (q00 (pv 8) (q00 (q0k q13 (pv 4) (pv 9) (fun _ _=>rfl)) q05))) q05)))))
   (q07 (q0a q1k))
   q0c)))
   (q01 (q0s (i:=10) nd rfl (Or.inl rfl) (q18 Dthings_after (hr.mono (by decide)) q0z (q00 (pv 5) (q00 (pv 3) (q00 (pv 6) q05)))))
   (q01 (q0s (i:=11) nd rfl (Or.inl rfl) (q18 Dkeys_after (hr.mono (by decide)) q0z (q00 (pv 5) (q00 (pv 3) (q00 (pv 6) q05)))))
   (q01 (q0s (i:=12) nd rfl (Or.inl rfl) (q18 Dtrails_after (hr.mono (by decide)) q0z (q00 (pv 5) (q00 (pv 3) (q00 (pv 6) q05)))))
   (q01 (q0q (PW.pt (q2u (q1g (q17 (q18 Dlaw_are_things (hr.mono (by decide)) q0z (q00 (pv 10) (q00 (pv 1) q05))))) (q23 (q1g (q17 (q18 Dlaw_are_keys (hr.mono (by decide)) q0z (q00 (pv 11) (q00 (pv 1) q05))))))))
   (q07 (q0a q1k))
   q0c)
   (q01 (q0q (PW.pt (q2u (q1g (q17 (q18 Dlaw_are_trails (hr.mono (by decide)) q0z (q00 (pv 12) q05)))) (q23 (q0f (qdu hu64) (pv 11) (q0u hu (pv 8) q09 (fun _ _=>rfl)) (q0i _)))))
   (q07 (q0a q1k))
   q0c)
   (q01 (q2e PassesOwn.never rfl (q2h rfl B.range (q00 (pv 1) q05)) (q0x (i:=9) nd rfl (Or.inl rfl))
   (q01 (q0s (i:=13) nd rfl (Or.inr rfl) (q0k q13 (q0u hu (pv 8) q09 (fun _ _=>rfl)) (pv 9) (fun _ _=>rfl)))
   (q01 (qbn (i:=14) (NB:=["_law_name","_law_left"]) (ix:=[none,some 13]) rfl nd rfl (Or.inl rfl) ⟨rfl,rfl,by decide +kernel,by decide +kernel,⟨rfl,trivial⟩,rfl,rfl,rfl,⟨⟨rfl,.inl rfl,.inl rfl,rfl⟩,trivial⟩⟩ (q1l (q0e q7n rfl B.sorted PyProof.Rows.boot_sorted (q00 (q2b (q6d rfl) rfl B.list_ PyProof.Rows.boot_list (q00 (pv 13) q05)) q05))) (fun _ _ _ _ _=>(q0x (i:=0) (show (["_law_name","_law_left"]:List Str).Nodup by decide +kernel) rfl (Or.inl rfl))) (fun _ _ _ _ _=>(qcb (q0f q4c (q0u hu (pv 1) (pv 0) (fun _ _=>rfl)) q02 (q0i _)))) (fun _ _ _ _ _=>(pv 0)))
   (q07 (q0q (q0f (qdu hu64) (q0k q13 (pv 10) (pv 9) (fun _ _=>rfl)) (q37 (NB:=["_law_name","_law_left"]) (ix:=[none,some 13]) rfl ⟨rfl,rfl,by decide +kernel,by decide +kernel,⟨rfl,trivial⟩,rfl,rfl,rfl,⟨⟨rfl,.inl rfl,.inl rfl,rfl⟩,trivial⟩⟩ (q1l (pv 14)) (fun _ _ _ _ _=>(q0x (i:=0) (show (["_law_name","_law_left"]:List Str).Nodup by decide +kernel) rfl (Or.inl rfl))) (fun _ _ _ _ _=>q3b) (fun _ _ _ _ _=>(q19 (q00 (pv 0) (q00 (q0u hu (pv 1) (pv 0) (fun _ _=>rfl)) q05))))) (q0i _))
   (q07 (q0a q1k))
   q0c)))))
   (q01 (q0s (i:=15) nd rfl (Or.inl rfl) (q18 Dlost_after (hr.mono (by decide)) q0z (q00 (pv 5) (q00 (pv 3) (q00 (pv 6) q05)))))
   (q01 (q0q (PW.pt (q2u (q1g (q17 (q0e q0t rfl B.isinstance PyProof.Rows.boot_isinstance (q00 (pv 15) (q00 (q10 rfl B.list_ PyProof.Rows.boot_list (v:= .ty "list") rfl) q05))))) (q23 (q1g (q17 (q18 Dlaw_so (hr.mono (by decide)) q0z (q00 (pv 15) (q00 (q0u hu (pv 8) q09 (fun _ _=>rfl)) q05))))))))
   (q07 (q0a q1k))
   q0c)
   (q01 (q0q (PW.pt (q2u (q0f (qi5 hu64) (pv 5) (pv 2) (q0i _)) (q23 (q0f (qdu hu64) (pv 6) (pv 4) (q0i _)))))
   (q07 (q0a q1k))
   q0c)
   (q07 (q0a (q2z (qks hu64) (pv 12) (q37 (NB:=["_law_work","_law_yard"]) (ix:=[none,some 8]) rfl ⟨rfl,rfl,by decide +kernel,by decide +kernel,⟨rfl,trivial⟩,rfl,rfl,rfl,⟨⟨rfl,.inl rfl,.inl rfl,rfl⟩,trivial⟩⟩ (q1l (q2b (q6d rfl) rfl B.list_ PyProof.Rows.boot_list (q00 (q0u hu (pv 8) q09 (fun _ _=>rfl)) q05))) (fun _ _ _ _ _=>(q0x (i:=0) (show (["_law_work","_law_yard"]:List Str).Nodup by decide +kernel) rfl (Or.inl rfl))) (fun _ _ _ _ _=>q3b) (fun _ _ _ _ _=>(q19 (q00 (pv 0) (q00 (q0u hu (q0u hu (pv 1) q09 (fun _ _=>rfl)) (pv 0) (fun _ _=>rfl)) q05))))) (q0i _)))))))))))))))))))))))⟩
end
end K07
end
section
namespace K07
open PySem L2
section
variable {P:Program} {w:World} {K:PySem.W.Frag} {mg:Str→Option Value} {base:Heap}
theorem q8x {r:R2} {ta tb:TE} {σ:St} {H:Hp} {Q:Bool→Hp→Prop} (h:ta σ H fun x H1=>tb σ H1 fun y H2=>r x y H2 fun v H3=>∃ b,v= .bl b∧Q b H3):qja (tOp r ta tb) σ H Q:=h
theorem q94 {α:Type} (p:α→Bool) {l:List α} {i:Nat} {x:α} (h:l[i]? = some x):(l.take (i + 1)).filter p=(l.take i).filter p ++ (if p x=true then [x] else []):=by
 rw[q27 h,List.filter_append,List.filter_cons]
 by_cases e:p x=true
 ·rw[if_pos e,if_pos e];rfl
 ·rw[if_neg e,if_neg e];rfl
theorem qlm {R:Rn} {ds:List Deed} {i:Nat} {d:Deed} (h:ds[i]? = some d):(runD R ds).1[i]? = some (q1j (runD R (ds.take i)).2 d).1:=by
 have hi:=(List.getElem?_eq_some_iff.mp h).1
 have e:ds=ds.take (i + 1) ++ ds.drop (i + 1):=(List.take_append_drop _ _).symm
 have e2:(runD R ds).1=(runD R (ds.take (i + 1))).1 ++ (runD (runD R (ds.take (i + 1))).2 (ds.drop (i + 1))).1:=by
  have:=qg0 R (ds.take (i + 1)) (ds.drop (i + 1))
  rw[← e]at this
  rw[this]
 have l1:(runD R (ds.take i)).1.length=i:=by rw[q77,List.length_take];omega
 rw[e2,q27 h,q34]
 dsimp only
 rw[List.append_assoc,List.getElem?_append_right (by omega),l1,Nat.sub_self]
 rfl
theorem qkg {H:Hp} {as bs:List Addr} {qs:List (Int×Rq)} {a b:Addr} (ha:H a=some (.lst (as.map V.ref))) (hb:H b=some (.lst (bs.map V.ref))) (h1:Losts H as qs) (h2:Losts H bs qs) (hz:qs.length≤1000):Sm H 3 (.ref a) (.ref b):=by
 refine .lst ha hb (by rw[List.length_map,List.length_map,h1.len,h2.len]) (by rw[List.length_map,h1.len];exact hz) fun j x y e1 e2=> ?_
 rw[List.getElem?_map]at e1 e2
 cases ea:as[j]? with
 | none=>rw[ea]at e1;cases e1
 | some c =>
  cases eb:bs[j]? with
  | none=>rw[eb]at e2;cases e2
  | some d =>
   rw[ea]at e1
   rw[eb]at e2
   obtain rfl:V.ref c=x:=Option.some.inj e1
   obtain rfl:V.ref d=y:=Option.some.inj e2
   have hj:j < qs.length:=by rw[← h1.len];exact(List.getElem?_eq_some_iff.mp ea).1
   have eq:=List.getElem?_eq_getElem hj
   obtain⟨p,g1,g2⟩:=h1.at_ j c _ ea eq
   obtain⟨p',g1',g2'⟩:=h2.at_ j d _ eb eq
   refine .tup g1 g1' rfl (by show 2≤1000;decide) fun j x y e1 e2=> ?_
   match j,e1,e2 with
   | 0,e1,e2=>cases e1;cases e2;exact .int _
   | 1,e1,e2 =>
    cases e1;cases e2
    refine .tup g2 g2' rfl (by show 5≤1000;decide) fun j x y e1 e2=> ?_
    match j,e1,e2 with
    | 0,e1,e2=>cases e1;cases e2;exact .str _
    | 1,e1,e2=>cases e1;cases e2;exact .str _
    | 2,e1,e2=>cases e1;cases e2;exact .int _
    | 3,e1,e2=>cases e1;cases e2;exact .str _
    | 4,e1,e2=>cases e1;cases e2;exact .int _
    | j + 5,e1,e2=>cases e1
   | j + 2,e1,e2=>cases e1
theorem qki {f C Cd:Addr} {fd:FuncData} (Fn:Fun K "law" "law" sLaw f fd) (B:Blt mg) (U:Uses C Cd P w K mg base):FnOk P w K mg base CX0 13 f fd ["_law_script"] (qfn K):=by
 refine Fn.ok qh3 (fun vs H Q E h=> ?_) (fun cdv A outer s H vs Q E hr h=> ?_)
 ·obtain⟨a,ns,rfl,_⟩:=h
  rfl
 ·obtain⟨a,ns,rfl,hS,hn,k⟩:=h
  have nd:=qh3.nd
  have hu:=q3f hr
  have hu64:=hr.units
  refine⟨_,(qj5 (C:=C) (Cd:=Cd) B U nd cdv A outer s H E hr hu hu64).2,?_⟩
  refine⟨(by show 8≤sizeLine;decide),fun l hl=>⟨_,rfl,a,ns,0,rfl,(hS.same (Kp.new hl)).sq,_,_,rfl,rfl,.inr ⟨by decide,by decide⟩,_,_,rfl,rfl,(by show (0:Int) < _;decide),_,_,rfl,rfl,(by show (0:Int) < _;decide),q53 V.int [1,2,3,1,2,3,1,9] hl (Int.emod_nonneg _ (by decide)) (by show _ < (8:Int);exact Int.emod_lt_of_pos _ (by decide)) fun cc H1 ec k1=> ?_⟩⟩
  have hc:1≤cc∧cc≤9:=by
   have:=List.mem_of_getElem? ec
   simp at this
   omega
  clear ec
  obtain⟨c,rfl⟩:∃ c:Nat,cc=(c:Int):=⟨cc.toNat,by omega⟩
  have S1:=hS.same k1
  refine⟨_,rfl,a,ns,1,rfl,S1.sq,_,rfl,_,c,rfl,by omega,by omega,fun sl sas Ts H2 hsl hsl2 St2 okT tbT lT k2=> ?_⟩
  have S2:=S1.same k2
  refine⟨(by show 6≤sizeLine;decide),fun l' hl'=>⟨_,rfl,a,ns,0,rfl,(S2.same (Kp.new hl')).sq,_,_,rfl,rfl,.inr ⟨by decide,by decide⟩,_,_,rfl,rfl,(by show (0:Int) < _;decide),_,_,rfl,rfl,(by show (0:Int) < _;decide),q53 V.int [1,2,3,1,4,20] hl' (Int.emod_nonneg _ (by decide)) (by show _ < (6:Int);exact Int.emod_lt_of_pos _ (by decide)) fun b H3 eb k3=> ?_⟩⟩
  clear eb
  have S3:=S2.same k3
  refine⟨_,rfl,_,rfl,a,ns,c,rfl,S3,hn,hc.1,hc.2,fun dl ad ds H4 hdl hdl4 D4 lD okD k4=> ?_⟩
  have k24:=k3.trans k4
  refine⟨_,rfl,sl,sas,Ts,rfl,k24.get hsl2 nEm,St2.same k24,okT.z,fun hp cas H5 hhp hhp5 Sc5 k5 _=> ?_⟩
  refine⟨_,rfl,dl,ad,ds,rfl,k5.get hdl4 nEm,D4.same k5,by omega,fun aq ad2 H6 haq haq6 D6 k6=> ?_⟩
  refine⟨_,rfl,_,rfl,_,rfl,hp,aq,b,cas,Ts,ad2,ds,4,rfl,⟨k6.get hhp5 nEm,Sc5.same k6,okT,haq6,D6,by omega⟩,fun tl us HW htl htlW AV k7=> ?_⟩
  have k6W:=k7
  have k4W:=(k5.trans k6).trans k7
  have hslW:=(k24.trans k4W).get hsl2 nEm
  have StW:=St2.same (k24.trans k4W)
  have hdlW:=k4W.get hdl4 nEm
  have DW:=D4.same k4W
  have SIW:StoryIn HW hp aq cas Ts ad2 ds 4:=⟨(k6.trans k7).get hhp5 nEm,Sc5.same (k6.trans k7),okT,k7.get haq6 nEm,D6.same k7,by omega⟩
  have SI:∀ {H':Hp},Kp [] HW H'→StoryIn H' hp aq cas Ts ad2 ds 4:=fun {H'} kk=>⟨kk.get SIW.hl nEm,SIW.S.same kk,okT,kk.get SIW.hd nEm,SIW.D.same kk,by omega⟩
  clear hS S1 S2 S3 k1 k2 k3 k4 k24 k5 k6 k7 k6W k4W hsl hsl2 St2 hdl hdl4 D4 hhp hhp5 Sc5 haq haq6 D6 htl
  have lens1:∀ d ∈ ds,∀ x ss,d= .start x ss→ss.length≤1000:=fun d hd x ss e=>by
   have:=okD d hd
   rw[e]at this
   have:=this.2.1
   omega
  have lrun:=q77 (newR Ts b) ds
  have lus:us.length=ds.length:=by rw[AV.len,lrun]
  refine⟨_,rfl,_,_,_,true,rfl,.lst htlW,q0y (by decide +kernel),_,rfl,iteF ?_⟩
  refine⟨_,rfl,tl,_,rfl,.inl (SqL.of htlW),_,rfl,dl,_,rfl,.inl (SqL.of hdlW),rfl,_,rfl,q3u (by rw[List.length_map,DW.len,lus]) ?_⟩
  refine⟨_,rfl,_,rfl,sl,b,sas,Ts,rfl,hslW,StW,okT.z,fun y A8 H8 I8=> ?_⟩
  refine⟨_,rfl,dl,_,rfl,.inl (SqL.of (I8.kp.get hdlW nEm)),(ad.length:Int),by rw[List.length_map],by rw[DW.len];omega,by rw[DW.len];omega,?_⟩
  refine q26 (lo:=0) (n:=((ad.length:Int)).toNat) (fun i σ H2=>∃ (v9:Option V) (tw:Tb) (A2:YA),σ=[some (.ref a),some (.int c),some (.ref sl),some (.int b),some (.ref dl),some (.ref hp),some (.ref aq),some (.ref tl),some (.ref y),v9,none,none,none,none,none,none]∧YP exN HW H2 y (runD (newR Ts b) (ds.take i)).2 tw A2∧YI c (runD (newR Ts b) (ds.take i)).2 tw (4 + i)) ⟨none,[],A8,rfl,I8,YI.new b okT tbT⟩ ?_ ?_
  ·rintro i σ H2 hi ⟨v9,tw,A2,rfl,I,Y⟩
   have hi:i < ad.length:=by omega
   refine qbs fun kk ek=> ?_
   obtain rfl:kk=(i:Int):=by omega
   clear ek
   have hid:i < ds.length:=by rw[← DW.len];exact hi
   have hiu:i < us.length:=by rw[lus];exact hid
   have ea:ad[i]? = some ad[i]:=List.getElem?_eq_getElem hi
   have ed:ds[i]? = some ds[i]:=List.getElem?_eq_getElem hid
   have eu:us[i]? = some us[i]:=List.getElem?_eq_getElem hiu
   have hdA:=DW.at_ i _ _ ea ed
   have han:=qlm (R:=newR Ts b) ed
   have hav:=AV.at_ i _ _ eu han
   have okd:=okD _ (List.getElem_mem hid)
   have et:=q27 ed
   have dlen:(runD (newR Ts b) (ds.take i)).2.desks.length=c:=by rw[(q2o _ _).1];simp[newR,lT]
   generalize ad[i]=da at ea hdA
   generalize ds[i]=d at ed hdA han hav okd et
   generalize us[i]=u at eu hav
   have eR:(runD (newR Ts b) (ds.take (i + 1))).2=(q1j (runD (newR Ts b) (ds.take i)).2 d).2:=by rw[et,q34]
   generalize (runD (newR Ts b) (ds.take i)).2=R at *
   refine⟨_,rfl,_,rfl,tl,_,_,_,rfl,rfl,SqL.of (I.kp.get htlW nEm),q08 (j:=i) eu,_,rfl,_,rfl,_,rfl,dl,_,_,_,rfl,rfl,SqL.of (I.kp.get hdlW nEm),q08 (j:=i) (by rw[List.getElem?_map,ea];rfl),y,da,d,HW,R,tw,A2,c,4 + i,rfl,hdA,I,Y,by omega,okd,dlen,by omega,fun v H' A' hv J=> ?_⟩
   refine⟨u,v,_,rfl,hav.tk (Kp.tk J.kp (by simp)),hv,_,rfl,iteF ?_⟩
   refine⟨_,qb1 R tw d,A',rfl,?_,?_⟩
   ·rw[eR];exact J
   ·rw[eR];exact Y.deed d okd
  rintro σ H9 ⟨v9,tw,A2,rfl,I,Y⟩
  have eds:ds.take ((ad.length:Int)).toNat=ds:=by rw[Int.toNat_natCast,DW.len,List.take_length]
  rw[eds]at I Y
  rw[Int.toNat_natCast]at Y
  clear eds I8 htlW AV lus lrun
  obtain⟨L,ciN⟩:=Y.ci
  have okN:=Y.ok
  have ln:4 + ad.length≤69:=by rw[DW.len];omega
  have dlN:(runD (newR Ts b) ds).2.desks.length=c:=by rw[(q2o _ _).1];simp[newR,lT]
  obtain⟨rowss,eR,hrows⟩:=q9x (c:=c) (p:=fun i=>0≤i) (Ds:=(runD (newR Ts b) ds).2.desks.map (·.1)) fun T hT=>by
   obtain⟨p,hp,rfl⟩:=List.mem_map.mp hT
   obtain⟨i,ei⟩:=List.mem_iff_getElem?.mp hp
   exact ciN.tb i p.1 p.2 ei
  have lR:rowss.length=c:=by have:=congrArg List.length eR;rw[List.length_map,List.length_map,dlN]at this;exact this.symm
  have kwF:∀ F ∈ (runD (newR Ts b) ds).2.desks.map (·.2),q45 F:=fun F hF=>by
   obtain⟨p,hp,rfl⟩:=List.mem_map.mp hF
   obtain⟨i,ei⟩:=List.mem_iff_getElem?.mp hp
   intro kv hv
   obtain⟨x,ss,_,j,s,y,_,_,e,_⟩:=ciN.ks i p.1 p.2 ei kv hv
   exact⟨x,j,y,e⟩
  refine⟨_,rfl,_,rfl,_,rfl,hp,aq,b,cas,Ts,ad2,ds,4,rowss,rfl,SI I.kp,eR,fun rows hr=>(hrows rows hr).2.2,fun tp tcs HA htp htpA ltc thA kA=> ?_⟩
  have TAA:qdb HA tcs rowss:=⟨ltc,thA⟩
  have IA:=I.same kA
  refine⟨_,rfl,_,rfl,_,rfl,hp,aq,b,cas,Ts,ad2,ds,4,rfl,SI IA.kp,fun kp qs HB hkp hkpB KAB kB=> ?_⟩
  have IB:=IA.same kB
  refine⟨_,rfl,_,rfl,_,rfl,hp,aq,b,cas,Ts,ad2,ds,4,rfl,SI IB.kp,fun tr tbs HC htr htrC TRC kC=> ?_⟩
  have IC:=IB.same kC
  have htpC:=(kB.trans kC).get htpA nEm
  have TAC:=TAA.same (kB.trans kC)
  have hkpC:=kC.get hkpB nEm
  have KAC:=KAB.same kC
  clear I IA IB htp htpA thA TAA kA hkp hkpB KAB kB htr kC ltc
  have lFs:((runD (newR Ts b) ds).2.desks.map (·.2)).length=c:=by rw[List.length_map,dlN]
  generalize hR:(runD (newR Ts b) ds).2=R at *
  refine⟨_,rfl,_,rfl,tp,tcs,rowss,c,rfl,htpC,TAC,lR,_,rfl,iteF ?_⟩
  refine⟨_,rfl,_,rfl,kp,qs,_,c,rfl,hkpC,KAC,lFs,kwF,_,rfl,iteF ?_⟩
  refine⟨_,rfl,tr,tbs,_,rfl,htrC,TRC,_,rfl,iteF ?_⟩
  have KY:q3e HC A2.kas (R.desks.map (·.2)):=⟨by rw[List.length_map,IC.lk],fun i q F e1 e2=>by
   rw[List.getElem?_map]at e2
   cases e3:R.desks[i]? with
   | none=>rw[e3]at e2;cases e2
   | some p =>
    rw[e3]at e2
    cases e2
    exact(IC.kk i q p.1 p.2 e1 e3 rfl).2⟩
  refine⟨_,rfl,_,rfl,y,_,rfl,dgY (IC.hy rfl) (qea ..),kp,A2.ky,_,_,(fun _=>true),rfl,rfl,SqL.of hkpC,SqL.of (IC.hky rfl),by rw[List.length_map,List.length_map,KAC.1,KY.1],eqKs kwF KAC KY,_,rfl,?_⟩
  rw[q3j]
  refine iteF ?_
  clear KY KAC hkpC
  refine⟨_,rfl,_,rfl,(by omega),(by omega),?_⟩
  refine q26 (lo:=0) (n:=((c:Int)).toNat) (fun i σ H2=>∃ (v9 v13 v14:Option V),σ=[some (.ref a),some (.int c),some (.ref sl),some (.int b),some (.ref dl),some (.ref hp),some (.ref aq),some (.ref tl),some (.ref y),v9,some (.ref tp),some (.ref kp),some (.ref tr),v13,v14,none]∧Kp [] HC H2) ⟨_,none,none,rfl,Kp.refl _ _⟩ ?_ ?_
  ·rintro kn σ H2 hi ⟨v9',v13,v14,rfl,kp2⟩
   have hi:kn < c:=by omega
   refine qbs fun kk ek=> ?_
   obtain rfl:kk=(kn:Int):=by omega
   clear ek
   have I2:=IC.same kp2
   have hdk:kn < R.desks.length:=by omega
   have eD:R.desks[kn]? = some (R.desks[kn].1,R.desks[kn].2):=List.getElem?_eq_getElem hdk
   generalize R.desks[kn].1=T at eD
   generalize R.desks[kn].2=F at eD
   have hrk:kn < rowss.length:=by rw[lR];exact hi
   have er:rowss[kn]? = some rowss[kn]:=List.getElem?_eq_getElem hrk
   have hrw:=hrows _ (List.getElem_mem hrk)
   generalize rowss[kn]=rows at er hrw
   have eT:T=kvOf rows:=by
    have h1:(R.desks.map (·.1))[kn]? = some T:=by rw[List.getElem?_map,eD];rfl
    rw[eR,List.getElem?_map,er]at h1
    exact(Option.some.inj h1).symm
   subst eT
   have hta:kn < A2.tas.length:=by rw[I2.lt];exact hdk
   have eca:A2.tas[kn]? = some A2.tas[kn]:=List.getElem?_eq_getElem hta
   generalize A2.tas[kn]=ca at eca
   obtain⟨_,hca⟩:=I2.dk kn ca _ F eca eD rfl
   have htc0:kn < tcs.length:=by rw[TAC.1];exact hrk
   have etc:tcs[kn]? = some tcs[kn]:=List.getElem?_eq_getElem htc0
   generalize tcs[kn]=tc at etc
   obtain⟨tbs',rows',htc,pmR,ltR,thR⟩:=TAC.2 kn tc rows etc er
   have l6:=qh1 (fun q hq=>(hrw.1 q hq).1) hrw.2.1
   refine⟨_,rfl,y,_,rfl,dgY (I2.hy rfl) (q3c ..),_,rfl,A2.th,_,_,_,rfl,rfl,SqL.of (I2.hth rfl),q08 (j:=kn) (by rw[List.getElem?_map,eca];rfl),?_⟩
   refine q5x (K:=K) (j:=13) (rows:=rows.map fun q=>(q.1,V.int q.2)) rfl (by rw[← q58];exact hca) (by rw[List.length_map];omega) fun lp ss HL kL hlpL pm st D0 hD=> ?_
   have pm:ss.Perm (rows.map (·.1)):=by
    rw[List.map_map]at pm
    exact pm
   have lss:ss.length≤6:=by have:=pm.length_eq;rw[List.length_map]at this;omega
   have st:=qb9 st (pm.nodup_iff.mpr hrw.2.1)
   have told:=qed hrw.2.1 hrw.2.1 (fun q hq=>(hrw.1 q hq).2) (fun _=>rfl) pmR ltR pm st
   have gk:∀ {x:Str} {H4:Hp},x ∈ ss→H4 ca=some (.dK (kvOf rows))→DGet H4 ca (.str x) (some (.int (getI (kvOf rows) x))):=fun {x H4} hx h4=>by
    have:=DGet.k (k:=Sum.inr x) h4
    rw[qfp hrw.2.1 (pm.mem_iff.mp hx)]at this
    exact this
   have hcaL:=kL.get hca nEm
   have kpL:=kp2.trans kL
   clear kL hca I2
   refine⟨(fun i σ ys H2=>∃ v0:Option V,σ=[v0,some (.ref ca)]∧ys=((ss.take i).filter fun x=>decide (getI (kvOf rows) x ≠ 0)).map V.str∧Kp [] HL H2∧H2 D0=some (.lst ys)),?_,?_,?_,?_⟩
   ·exact⟨none,rfl,rfl,Kp.new hD,q03⟩
   ·rintro i σ ys H2 hi ⟨v0,rfl,ey,kp2,hy⟩
    exact⟨SqL.of (kp2.get hlpL nEm),hy⟩
   ·rintro i z σ ys H2 hx ⟨v0,rfl,ey,kp2,hy⟩
    rw[List.getElem?_map]at hx
    cases ea:ss[i]? with
    | none=>rw[ea]at hx;cases hx
    | some x =>
    rw[ea]at hx
    obtain rfl:V.str x=z:=Option.some.inj hx
    have eS:=q94 (fun x=>decide (getI (kvOf rows) x ≠ 0)) ea
    refine⟨_,rfl,_,rfl,ca,_,rfl,gk (List.mem_of_getElem? ea) (kp2.get hcaL nEm),rfl,_,rfl,?_⟩
    by_cases h0:getI (kvOf rows) x=0
    ·refine q3u (by rw[h0]) ?_
     rw[if_neg (by simp[h0]),List.append_nil]at eS
     exact⟨_,rfl,by rw[eS];exact ey,kp2,hy⟩
    ·refine qk7 (fun z=>h0 (by injection z)) ?_
     rw[if_pos (by simp[h0])]at eS
     refine⟨_,rfl,hy,?_,_,rfl,?_,fun b' o' e _=>by rw[q0b (q0d e hD)];exact kp2.get e nEm,q03⟩
     ·rw[ey,List.length_map]
      exact q0n (Nat.le_trans (List.length_filter_le _ _) (by rw[List.length_take];omega))
     ·rw[ey,eS,List.map_append]
      rfl
   rintro σ ys HN ⟨v0,rfl,ey,kN,hyN⟩
   rw[List.length_map,List.take_length]at ey
   subst ey
   have memN:∀ x ∈ ss.filter fun x=>decide (getI (kvOf rows) x ≠ 0),x ∈ ss:=fun x hx=>(List.mem_filter.mp hx).1
   have lnm:(ss.filter fun x=>decide (getI (kvOf rows) x ≠ 0)).length≤6:=Nat.le_trans (List.length_filter_le _ _) lss
   generalize ss.filter (fun x=>decide (getI (kvOf rows) x ≠ 0))=nm at hyN told memN lnm
   have hcaN:=kN.get hcaL nEm
   have kpN:=kpL.trans kN
   clear kN hcaL kpL hD hlpL
   refine qk1 ?_
   refine q8x ?_
   refine⟨_,rfl,_,rfl,tp,_,_,_,rfl,rfl,SqL.of (kpN.get htpC nEm),q08 (j:=kn) (by rw[List.getElem?_map,etc];rfl),?_⟩
   refine q4e (K:=K) (a:=D0) (xs:=nm.map V.str) rfl (SqL.of hyN) fun D1 hD1=>⟨(fun i σ ys H2=>∃ (v0:Option V) (bs2:List Addr),σ=[v0,some (.ref ca)]∧ys=bs2.map V.ref∧q2j H2 bs2 ((nm.take i).map fun x=>(x,getI (kvOf rows) x))∧Kp [] HN H2∧H2 D1=some (.lst ys)),?_,?_,?_,?_⟩
   ·exact⟨none,[],rfl,rfl,⟨rfl,fun j b row e=>by simp at e⟩,Kp.new hD1,q03⟩
   ·rintro i σ ys H2 hi ⟨v0,bs2,rfl,ey,th,kp2,hy⟩
    exact⟨SqL.of (kp2.get hyN nEm),hy⟩
   ·rintro i z σ ys H2 hx ⟨v0,bs2,rfl,ey,th,kp2,hy⟩
    rw[List.getElem?_map]at hx
    cases ea:nm[i]? with
    | none=>rw[ea]at hx;cases hx
    | some x =>
    rw[ea]at hx
    obtain rfl:V.str x=z:=Option.some.inj hx
    refine⟨_,rfl,_,rfl,_,rfl,ca,_,rfl,gk (memN _ (List.mem_of_getElem? ea)) (kp2.get hcaN nEm),(by show 2≤sizeLine;decide),fun b' hb'=> ?_⟩
    have kb:Kp [] H2 (upd H2 b' (.tup [.str x,.int (getI (kvOf rows) x)])):=Kp.new hb'
    have hyb:=kb.get hy nEm
    have thb:=(th.same kb).snoc (row:=(x,getI (kvOf rows) x)) (b:=b') q03
    refine⟨hyb,?_,_,bs2 ++ [b'],rfl,?_,?_,?_,q03⟩
    ·rw[ey,List.length_map,th.1,List.length_map,List.length_take]
     exact q0n (by omega)
    ·rw[ey,List.map_append];rfl
    ·rw[q27 ea,List.map_append]
     exact thb.tk (Kp.tk (xs:=[D1]) (Kp.put (by simp)) fun c hc ys' e=>by simp at hc;subst hc;rw[hyb]at e;cases e)
    ·intro c' o e hn
     rw[q0b (q0d e hD1)]
     exact(kp2.trans kb) c' o e hn
   rintro σ ys HQ ⟨v0,bs2,rfl,ey,th,kQ,hyQ⟩
   rw[List.length_map,List.take_length,← told]at th
   subst ey
   refine⟨tc,D1,_,_,(fun _=>true),rfl,rfl,SqL.of ((kpN.trans kQ).get htc nEm),SqL.of hyQ,by rw[List.length_map,List.length_map,th.1,thR.1],qkf (thR.same (kpN.trans kQ)) th,_,rfl,?_⟩
   rw[q3j]
   exact iteF ⟨_,_,_,rfl,kpN.trans kQ⟩
  rintro σ H2 ⟨v9',v13,v14,rfl,kpC⟩
  have I2:=IC.same kpC
  have htr2:=kpC.get htrC nEm
  have TR2:=TRC.same kpC
  clear IC htrC TRC kpC TAC htpC
  refine⟨_,rfl,_,rfl,_,rfl,hp,aq,b,cas,Ts,ad2,ds,4,rfl,SI I2.kp,fun lo las H3 hlo hlo3 L3 k3=> ?_⟩
  rw[hR]at L3
  have I3:=I2.same k3
  obtain⟨al,hal,LA⟩:=I3.hlo rfl
  refine⟨_,rfl,_,_,_,true,rfl,.lst hlo3,q0y (by decide +kernel),_,rfl,iteF ?_⟩
  refine⟨_,rfl,_,rfl,y,_,rfl,dgY (I3.hy rfl) (q5l ..),.ref lo,.ref A2.lo,rfl,qkg hlo3 hal L3 LA (by have:=okN.sl;omega),fun H4 k4=>⟨_,rfl,iteF ?_⟩⟩
  have I4:=I3.same k4
  have htr4:=(k3.trans k4).get htr2 nEm
  have TR4:=TR2.same (k3.trans k4)
  have SI4:=SI I4.kp
  have hsl4:=I4.kp.get hslW nEm
  have St4:=StW.same I4.kp
  have hdl4:=I4.kp.get hdlW nEm
  have D4:=DW.same I4.kp
  clear I2 I3 htr2 TR2 hlo hlo3 L3 k3 k4 hal LA
  refine⟨_,rfl,_,rfl,hp,sl,cas,sas,Ts,rfl,rfl,SI4.hl,hsl4,SI4.S.len,St4.len,SI4.S.at_,St4.at_,(fun T hT p hm=> ?_),_,rfl,iteF ?_⟩
  ·obtain⟨rows,rfl,_,_⟩:=tbT T hT
   unfold kvOf at hm
   obtain⟨q,_,rfl⟩:=List.mem_map.mp hm
   rfl
  refine⟨_,rfl,_,rfl,aq,dl,_,_,(fun _=>true),rfl,rfl,SqL.of SI4.hd,SqL.of hdl4,by rw[List.length_map,List.length_map,SI4.D.len,D4.len],qil SI4.D D4,_,rfl,?_⟩
  rw[q3j]
  refine iteF ?_
  clear SI4 hsl4 St4 hdl4 D4
  refine⟨_,rfl,?_⟩
  refine q76 (K:=K) (d:=A2.wd) (kvs:=wkT R.works A2.wa) (fun Rk hk=>⟨_,rfl,y,_,rfl,dgY (I4.hy rfl) (q3p ..),hk⟩) (I4.hwd rfl) fun lp hlp D0 hD=> ?_
  have eL:((wkT R.works A2.wa).map fun (q:Key×V)=>kV q.1)=R.works.map fun v=>V.str v.1:=by unfold wkT;rw[List.map_map];rfl
  rw[eL]at hD ⊢
  have kL:Kp [] H4 (upd H4 lp (.lst (R.works.map fun v=>V.str v.1))):=Kp.new hlp
  have hlpL:(upd H4 lp (.lst (R.works.map fun v=>V.str v.1))) lp=some (.lst (R.works.map fun v=>V.str v.1)):=q03
  generalize upd H4 lp (.lst (R.works.map fun v=>V.str v.1))=HL at kL hlpL hD
  have IL:=I4.same kL
  have htrL:=kL.get htr4 nEm
  have TRL:=TR4.same kL
  clear kL hlp I4 htr4 TR4
  have lws:R.works.length≤69:=by have:=okN.sw;omega
  refine⟨(fun i σ ys H2=>∃ (v0:Option V) (bs:List Addr),σ=[v0,some (.ref y)]∧ys=bs.map V.ref∧bs.length=i∧(∀ (j:Nat) q v,bs[j]? = some q→R.works[j]? = some v→H2 q=some (.tup [.str v.1,.ref (A2.ta v.1)]))∧Kp [] HL H2∧H2 D0=some (.lst ys)),?_,?_,?_,?_⟩
  ·exact⟨none,[],rfl,rfl,rfl,fun j q v e=>by simp at e,Kp.new hD,q03⟩
  ·rintro i σ ys H2 hi ⟨v0,bs,rfl,ey,lb,hb,kp2,hy⟩
   exact⟨SqL.of (kp2.get hlpL nEm),hy⟩
  ·rintro i z σ ys H2 hx ⟨v0,bs,rfl,ey,lb,hb,kp2,hy⟩
   rw[List.getElem?_map]at hx
   cases ea:R.works[i]? with
   | none=>rw[ea]at hx;cases hx
   | some v =>
   rw[ea]at hx
   obtain rfl:V.str v.1=z:=Option.some.inj hx
   have hi:i < R.works.length:=(List.getElem?_eq_some_iff.mp ea).1
   have hw:wkF R.works v.1=some v.2:=by
    unfold wkF
    rw[q2f okN.nod (show (v.1,v.2) ∈ R.works from List.mem_of_getElem? ea)]
    rfl
   have I2:=IL.same kp2
   have gt:=DGet.k (k:=Sum.inr v.1) (I2.htd rfl)
   rw[q2p,hw]at gt
   refine⟨_,rfl,_,rfl,y,_,rfl,dgY (I2.hy rfl) (q5e ..),_,rfl,A2.td,_,rfl,gt,(by show 2≤sizeLine;decide),fun b' hb'=> ?_⟩
   have kb:Kp [] H2 (upd H2 b' (.tup [.str v.1,.ref (A2.ta v.1)])):=Kp.new hb'
   have hyb:=kb.get hy nEm
   have hbb:(upd H2 b' (.tup [.str v.1,.ref (A2.ta v.1)])) b'=some (.tup [.str v.1,.ref (A2.ta v.1)]):=q03
   generalize upd H2 b' (.tup [.str v.1,.ref (A2.ta v.1)])=H5 at kb hyb hbb
   have nt:∀ {q:Addr} {xs:List V},H5 q=some (.tup xs)→q ≠ D0:=fun {q xs} e=>q30 e hyb (by intro z;cases z)
   refine⟨hyb,?_,_,bs ++ [b'],rfl,?_,?_,fun j q w e1 e2=> ?_,?_,q03⟩
   ·rw[ey,List.length_map,lb]
    exact q0n (by omega)
   ·rw[ey,List.map_append];rfl
   ·rw[List.length_append,lb];rfl
   ·by_cases hj:j < bs.length
    ·rw[List.getElem?_append_left hj]at e1
     have h5:=kb.get (hb j q w e1 e2) nEm
     rw[q0b (nt h5)]
     exact h5
    ·have e:j=i:=by
      have:=(List.getElem?_eq_some_iff.mp e1).1
      rw[List.length_append]at this
      simp at this
      omega
     subst e
     rw[ea]at e2
     cases e2
     rw[List.getElem?_append_right (by omega),lb,Nat.sub_self]at e1
     have:b'=q:=Option.some.inj e1
     subst this
     rw[q0b (nt hbb)]
     exact hbb
   ·intro c' o e hn
    rw[q0b (q0d e hD)]
    exact(kp2.trans kb) c' o e hn
  rintro σ ys HZ ⟨v0,bs,rfl,rfl,lb,hb,kZ,hy⟩
  rw[List.length_map]at lb
  have IZ:=IL.same kZ
  have TRZ:q4y HZ bs (q6h R):=⟨by rw[lb];unfold q6h;rw[List.length_map],fun j q row e1 e2=>by
   unfold q6h at e2
   rw[List.getElem?_map]at e2
   cases e3:R.works[j]? with
   | none=>rw[e3]at e2;cases e2
   | some v =>
    rw[e3]at e2
    cases e2
    obtain⟨_,as,T⟩:=IZ.tl v.1 v.2 (List.mem_of_getElem? e3) rfl
    exact⟨_,as,hb j q v e1 e3,T⟩⟩
  have TR9:=TRL.same kZ
  refine⟨tr,D0,_,_,(fun _=>true),rfl,rfl,SqL.of (kZ.get htrL nEm),SqL.of hy,by rw[List.length_map,List.length_map,TR9.1,TRZ.1],eqTr TR9 TRZ,?_⟩
  rw[q3j]
  exact k _
end
end K07
end
namespace K07
open PySem L2
theorem all_mk {l:PySem.W.OpenLaw} {w:World} {K:PySem.W.Frag} {h:Heap} {mg:Str→Option Value} {fa y5 y6 y2 y1 y29 y30 y31 y32 y8 y9 y10 y11 y12 y13 y14 y15 y7 y16 y17 y18 y19 y20 y21 y22 y23 y24 y25 y26 y27 y33 y28 y34 y35 y36 y37 y38 y39 y40 y41 y42 y43 y44 y45 y46 y47 y48 y49 y50 y51 y52 y53 y54 y55 y56 y57 y58 y59 y60 y61 y62 y122:Addr} (X:K.In h) (G:h.Ns mainGlobals mg) (hfa:mg "law" = some (.ref fa))
  {od0 an0 od1 an1 od2 an2 od3 an3 od4 an4 od5 an5 od6 an6 od7 an7 od8 an8 od9 an9 od10 an10 od11 an11 od12 an12 od13 an13 od14 an14 od15 an15 od16 an16 od17 an17 od18 an18 od19 an19 od20 an20 od21 an21 od22 an22 od23 an23 od24 an24 od25 an25 od26 an26 od27 an27 od28 an28 od29 an29 od30 an30 od31 an31 od32 an32 od33 an33 od34 an34 od35 an35 od36 an36 od37 an37 od38 an38 od39 an39 od40 an40 od41 an41 od42 an42 od43 an43 od44 an44 od45 an45 od46 an46 od47 an47 od48 an48 od49 an49 od50 an50 od51 an51 od52 an52 od53 an53 od54 an54 od55 an55 od56 an56:Option Addr} {sl0 sl1 sl2 sl3 sl4 sl5 sl6 sl7 sl8 sl9 sl10 sl11 sl12 sl13 sl14 sl15 sl16 sl17 sl18 sl19 sl20 sl21 sl22 sl23 sl24 sl25 sl26 sl27 sl28 sl29 sl30 sl31 sl32 sl33 sl34 sl35 sl36 sl37 sl38 sl39 sl40 sl41 sl42 sl43 sl44 sl45 sl46 sl47 sl48 sl49 sl50 sl51 sl52 sl53 sl54 sl55 sl56:Array (Option Value)} {oc0 kV0 dc0 pm0 cd0 ct0 oc1 kV1 dc1 pm1 cd1 ct1 oc2 kV2 dc2 pm2 cd2 ct2 oc3 kV3 dc3 pm3 cd3 ct3 oc4 kV4 dc4 pm4 cd4 ct4 oc5 kV5 dc5 pm5 cd5 ct5 oc6 kV6 dc6 pm6 cd6 ct6 oc7 kV7 dc7 pm7 cd7 ct7 oc8 kV8 dc8 pm8 cd8 ct8 oc9 kV9 dc9 pm9 cd9 ct9 oc10 kV10 dc10 pm10 cd10 ct10 oc11 kV11 dc11 pm11 cd11 ct11 oc12 kV12 dc12 pm12 cd12 ct12 oc13 kV13 dc13 pm13 cd13 ct13 oc14 kV14 dc14 pm14 cd14 ct14 oc15 kV15 dc15 pm15 cd15 ct15 oc16 kV16 dc16 pm16 cd16 ct16 oc17 kV17 dc17 pm17 cd17 ct17 oc18 kV18 dc18 pm18 cd18 ct18 oc19 kV19 dc19 pm19 cd19 ct19 oc20 kV20 dc20 pm20 cd20 ct20 oc21 kV21 dc21 pm21 cd21 ct21 oc22 kV22 dc22 pm22 cd22 ct22 oc23 kV23 dc23 pm23 cd23 ct23 oc24 kV24 dc24 pm24 cd24 ct24 oc25 kV25 dc25 pm25 cd25 ct25 oc26 kV26 dc26 pm26 cd26 ct26 oc27 kV27 dc27 pm27 cd27 ct27 oc28 kV28 dc28 pm28 cd28 ct28 oc29 kV29 dc29 pm29 cd29 ct29 oc30 kV30 dc30 pm30 cd30 ct30 oc31 kV31 dc31 pm31 cd31 ct31 oc32 kV32 dc32 pm32 cd32 ct32 oc33 kV33 dc33 pm33 cd33 ct33 oc34 kV34 dc34 pm34 cd34 ct34 oc35 kV35 dc35 pm35 cd35 ct35 oc36 kV36 dc36 pm36 cd36 ct36 oc37 kV37 dc37 pm37 cd37 ct37 oc38 kV38 dc38 pm38 cd38 ct38 oc39 kV39 dc39 pm39 cd39 ct39 oc40 kV40 dc40 pm40 cd40 ct40 oc41 kV41 dc41 pm41 cd41 ct41 oc42 kV42 dc42 pm42 cd42 ct42 oc43 kV43 dc43 pm43 cd43 ct43 oc44 kV44 dc44 pm44 cd44 ct44 oc45 kV45 dc45 pm45 cd45 ct45 oc46 kV46 dc46 pm46 cd46 ct46 oc47 kV47 dc47 pm47 cd47 ct47 oc48 kV48 dc48 pm48 cd48 ct48 oc49 kV49 dc49 pm49 cd49 ct49 oc50 kV50 dc50 pm50 cd50 ct50 oc51 kV51 dc51 pm51 cd51 ct51 oc52 kV52 dc52 pm52 cd52 ct52 oc53 kV53 dc53 pm53 cd53 ct53 oc54 kV54 dc54 pm54 cd54 ct54 oc55 kV55 dc55 pm55 cd55 ct55 oc56 kV56 dc56 pm56 cd56 ct56:Value}
  (y123:PySem.W.nsIn K mainGlobals "NoDesk" = some (some (.ref y5)))
  (y124:PySem.W.nsIn K mainGlobals "NoWork" = some (some (.ref y6)))
  (x_hn:PySem.W.specialIn K (.builtin "object.__class__") "__get__" = some (some (.builtin "getset_descriptor.__get__")))
  (x_tk:PySem.W.takesIn K (.builtin "object.__class__")=some true)
  (y125:PySem.W.findIn K (.ref y5) "__getattribute__" = some (some (.builtin "BaseException.__getattribute__")))
  (y126:PySem.W.findIn K (.ref y5) "__getattr__" = some none)
  (y127:PySem.W.findIn K (.ref y5) "__class__" = some (some (.builtin "object.__class__")))
  (y128:PySem.W.mroIn K y5 (.type "object")=some true)
  (y129:PySem.W.mroIn K y5 (.type "BaseException")=some true)
  (y130:PySem.W.typeIn K (.ref y5)=some (.type "type"))
  (y131:PySem.W.excIn K y5 [.type "ValueError",.type "Exception",.type "BaseException",.type "object"] "ValueError.__new__" = true)
  (y132:PySem.W.findIn K (.ref y6) "__getattribute__" = some (some (.builtin "BaseException.__getattribute__")))
  (y133:PySem.W.findIn K (.ref y6) "__getattr__" = some none)
  (y134:PySem.W.findIn K (.ref y6) "__class__" = some (some (.builtin "object.__class__")))
  (y135:PySem.W.mroIn K y6 (.type "object")=some true)
  (y136:PySem.W.mroIn K y6 (.type "BaseException")=some true)
  (y137:PySem.W.typeIn K (.ref y6)=some (.type "type"))
  (y138:PySem.W.excIn K y6 [.type "ValueError",.type "Exception",.type "BaseException",.type "object"] "ValueError.__new__" = true)
  (m_D:PySem.W.mroIn K y5 (.ref y5)=some true)
  (m_WD:PySem.W.mroIn K y6 (.ref y5)=some false)
  (m_W:PySem.W.mroIn K y6 (.ref y6)=some true)
  (y139:PySem.W.nsIn K mainGlobals "Desk" = some (some (.ref y2)))
  (y140:PySem.W.plainGet K y2 Str.empty=true)
  (y141:PySem.W.hasDictIn K y2=true)
  (y142:PySem.W.plainOver K y2=true)
  (y143:PySem.W.findIn K (.ref y2) "__setattr__" = some (some (.builtin "object.__setattr__")))
  (y144:PySem.W.makesIn K y2=true)
  (y145:PySem.W.keepIn K (.ref y2)=true)
  (y146:PySem.W.findIn K (.ref y2) "stock" = some none)
  (y147:PySem.W.findIn K (.ref y2) "fates" = some none)
  (y148:PySem.W.nsIn K mainGlobals "Runner" = some (some (.ref y1)))
  (y149:PySem.W.plainGet K y1 Str.empty=true)
  (y150:PySem.W.hasDictIn K y1=true)
  (y151:PySem.W.plainOver K y1=true)
  (y152:PySem.W.findIn K (.ref y1) "__setattr__" = some (some (.builtin "object.__setattr__")))
  (y153:PySem.W.makesIn K y1=true)
  (y154:PySem.W.keepIn K (.ref y1)=true)
  (y155:PySem.W.findIn K (.ref y1) "desks" = some none)
  (y156:PySem.W.findIn K (.ref y1) "bound" = some none)
  (y157:PySem.W.findIn K (.ref y1) "up" = some none)
  (y158:PySem.W.findIn K (.ref y1) "works" = some none)
  (y159:PySem.W.findIn K (.ref y1) "trails" = some none)
  (y160:PySem.W.findIn K (.ref y1) "tries" = some none)
  (y161:PySem.W.findIn K (.ref y1) "lost" = some none)
  (y162:PySem.W.nsIn K mainGlobals "do_or_done" = some (some (.ref y29)))
  (y163:K.lookup y29=some ⟨oc0,od0,.func (PySem.W.fnOf "do_or_done" "do_or_done" (q0j sDo) (q0g sDo) (q06 sDo) .none kV0 dc0 pm0 an0 cd0 ct0),sl0⟩)
  (y164:PySem.W.codeIn K cd0 "do_or_done" = true)
  (y66:PySem.W.keepIn K (.ref y29)=true)
  (y165:PySem.W.nsIn K mainGlobals "undo_or_undone" = some (some (.ref y30)))
  (y166:K.lookup y30=some ⟨oc1,od1,.func (PySem.W.fnOf "undo_or_undone" "undo_or_undone" (q0j sUn) (q0g sUn) (q06 sUn) .none kV1 dc1 pm1 an1 cd1 ct1),sl1⟩)
  (y167:PySem.W.codeIn K cd1 "undo_or_undone" = true)
  (y67:PySem.W.keepIn K (.ref y30)=true)
  (y168:PySem.W.nsIn K mainGlobals "next_behind" = some (some (.ref y31)))
  (y169:K.lookup y31=some ⟨oc2,od2,.func (PySem.W.fnOf "next_behind" "next_behind" (q0j sBeh) (q0g sBeh) (q06 sBeh) .none kV2 dc2 pm2 an2 cd2 ct2),sl2⟩)
  (y170:PySem.W.codeIn K cd2 "next_behind" = true)
  (y68:PySem.W.keepIn K (.ref y31)=true)
  (y171:PySem.W.nsIn K mainGlobals "next_of" = some (some (.ref y32)))
  (y172:K.lookup y32=some ⟨oc3,od3,.func (PySem.W.fnOf "next_of" "next_of" (q0j sNx) (q0g sNx) (q06 sNx) .none kV3 dc3 pm3 an3 cd3 ct3),sl3⟩)
  (y173:PySem.W.codeIn K cd3 "next_of" = true)
  (y69:PySem.W.keepIn K (.ref y32)=true)
  (y174:PySem.W.findIn K (.ref y2) "__init__" = some (some (.ref y8)))
  (y175:PySem.W.isFn K (.ref y8)=true)
  (y176:K.lookup y8=some ⟨oc4,od4,.func (PySem.W.fnOf "__init__" "Desk.__init__" (q0j qba) (q0g qba) (q06 qba) .none kV4 dc4 pm4 an4 cd4 ct4),sl4⟩)
  (y177:PySem.W.codeIn K cd4 "Desk.__init__" = true)
  (y178:PySem.W.keepIn K (.ref y8)=true)
  (y179:PySem.W.findIn K (.ref y2) "has" = some (some (.ref y9)))
  (y180:PySem.W.isFn K (.ref y9)=true)
  (y181:K.lookup y9=some ⟨oc5,od5,.func (PySem.W.fnOf "has" "Desk.has" (q0j sHas) (q0g sHas) (q06 sHas) .none kV5 dc5 pm5 an5 cd5 ct5),sl5⟩)
  (y182:PySem.W.codeIn K cd5 "Desk.has" = true)
  (y70:PySem.W.keepIn K (.ref y9)=true)
  (y183:PySem.W.findIn K (.ref y2) "take" = some (some (.ref y10)))
  (y184:PySem.W.isFn K (.ref y10)=true)
  (y185:K.lookup y10=some ⟨oc6,od6,.func (PySem.W.fnOf "take" "Desk.take" (q0j qan) (q0g qan) (q06 qan) .none kV6 dc6 pm6 an6 cd6 ct6),sl6⟩)
  (y186:PySem.W.codeIn K cd6 "Desk.take" = true)
  (y71:PySem.W.keepIn K (.ref y10)=true)
  (y187:PySem.W.findIn K (.ref y2) "do" = some (some (.ref y11)))
  (y188:PySem.W.isFn K (.ref y11)=true)
  (y189:K.lookup y11=some ⟨oc7,od7,.func (PySem.W.fnOf "do" "Desk.do" (q0j q6q) (q0g q6q) (q06 q6q) .none kV7 dc7 pm7 an7 cd7 ct7),sl7⟩)
  (y190:PySem.W.codeIn K cd7 "Desk.do" = true)
  (y72:PySem.W.keepIn K (.ref y11)=true)
  (y191:PySem.W.findIn K (.ref y2) "put" = some (some (.ref y12)))
  (y192:PySem.W.isFn K (.ref y12)=true)
  (y193:K.lookup y12=some ⟨oc8,od8,.func (PySem.W.fnOf "put" "Desk.put" (q0j sPut) (q0g sPut) (q06 sPut) .none kV8 dc8 pm8 an8 cd8 ct8),sl8⟩)
  (y194:PySem.W.codeIn K cd8 "Desk.put" = true)
  (y73:PySem.W.keepIn K (.ref y12)=true)
  (y195:PySem.W.findIn K (.ref y2) "undo" = some (some (.ref y13)))
  (y196:PySem.W.isFn K (.ref y13)=true)
  (y197:K.lookup y13=some ⟨oc9,od9,.func (PySem.W.fnOf "undo" "Desk.undo" (q0j qb5) (q0g qb5) (q06 qb5) .none kV9 dc9 pm9 an9 cd9 ct9),sl9⟩)
  (y198:PySem.W.codeIn K cd9 "Desk.undo" = true)
  (y74:PySem.W.keepIn K (.ref y13)=true)
  (y199:PySem.W.findIn K (.ref y2) "told" = some (some (.ref y14)))
  (y200:PySem.W.isFn K (.ref y14)=true)
  (y201:K.lookup y14=some ⟨oc10,od10,.func (PySem.W.fnOf "told" "Desk.told" (q0j qb3) (q0g qb3) (q06 qb3) .none kV10 dc10 pm10 an10 cd10 ct10),sl10⟩)
  (y202:PySem.W.codeIn K cd10 "Desk.told" = true)
  (y75:PySem.W.keepIn K (.ref y14)=true)
  (y203:PySem.W.findIn K (.ref y1) "__init__" = some (some (.ref y15)))
  (y204:PySem.W.isFn K (.ref y15)=true)
  (y205:K.lookup y15=some ⟨oc11,od11,.func (PySem.W.fnOf "__init__" "Runner.__init__" (q0j qat) (q0g qat) (q06 qat) .none kV11 dc11 pm11 an11 cd11 ct11),sl11⟩)
  (y206:PySem.W.codeIn K cd11 "Runner.__init__" = true)
  (y207:PySem.W.keepIn K (.ref y15)=true)
  (y76:PySem.W.findIn K (.ref y1) "desk_at" = some (some (.ref y7)))
  (y77:PySem.W.isFn K (.ref y7)=true)
  (y208:K.lookup y7=some ⟨oc12,od12,.func (PySem.W.fnOf "desk_at" "Runner.desk_at" (q0j q41) (q0g q41) (q06 q41) .none kV12 dc12 pm12 an12 cd12 ct12),sl12⟩)
  (y209:PySem.W.codeIn K cd12 "Runner.desk_at" = true)
  (y63:PySem.W.keepIn K (.ref y7)=true)
  (y210:PySem.W.findIn K (.ref y1) "arrive" = some (some (.ref y16)))
  (y211:PySem.W.isFn K (.ref y16)=true)
  (y212:K.lookup y16=some ⟨oc13,od13,.func (PySem.W.fnOf "arrive" "Runner.arrive" (q0j q4t) (q0g q4t) (q06 q4t) .none kV13 dc13 pm13 an13 cd13 ct13),sl13⟩)
  (y213:PySem.W.codeIn K cd13 "Runner.arrive" = true)
  (y78:PySem.W.keepIn K (.ref y16)=true)
  (y214:PySem.W.findIn K (.ref y1) "request_for" = some (some (.ref y17)))
  (y215:PySem.W.isFn K (.ref y17)=true)
  (y216:K.lookup y17=some ⟨oc14,od14,.func (PySem.W.fnOf "request_for" "Runner.request_for" (q0j rReq) (q0g rReq) (q06 rReq) .none kV14 dc14 pm14 an14 cd14 ct14),sl14⟩)
  (y217:PySem.W.codeIn K cd14 "Runner.request_for" = true)
  (y79:PySem.W.keepIn K (.ref y17)=true)
  (y218:PySem.W.findIn K (.ref y1) "send" = some (some (.ref y18)))
  (y219:PySem.W.isFn K (.ref y18)=true)
  (y220:K.lookup y18=some ⟨oc15,od15,.func (PySem.W.fnOf "send" "Runner.send" (q0j qbh) (q0g qbh) (q06 qbh) .none kV15 dc15 pm15 an15 cd15 ct15),sl15⟩)
  (y221:PySem.W.codeIn K cd15 "Runner.send" = true)
  (y80:PySem.W.keepIn K (.ref y18)=true)
  (y222:PySem.W.findIn K (.ref y1) "unheard" = some (some (.ref y19)))
  (y223:PySem.W.isFn K (.ref y19)=true)
  (y224:K.lookup y19=some ⟨oc16,od16,.func (PySem.W.fnOf "unheard" "Runner.unheard" (q0j q3k) (q0g q3k) (q06 q3k) .none kV16 dc16 pm16 an16 cd16 ct16),sl16⟩)
  (y225:PySem.W.codeIn K cd16 "Runner.unheard" = true)
  (y81:PySem.W.keepIn K (.ref y19)=true)
  (y226:PySem.W.findIn K (.ref y1) "written" = some (some (.ref y20)))
  (y227:PySem.W.isFn K (.ref y20)=true)
  (y228:K.lookup y20=some ⟨oc17,od17,.func (PySem.W.fnOf "written" "Runner.written" (q0j q3n) (q0g q3n) (q06 q3n) .none kV17 dc17 pm17 an17 cd17 ct17),sl17⟩)
  (y229:PySem.W.codeIn K cd17 "Runner.written" = true)
  (y82:PySem.W.keepIn K (.ref y20)=true)
  (y230:PySem.W.findIn K (.ref y1) "attempt" = some (some (.ref y21)))
  (y231:PySem.W.isFn K (.ref y21)=true)
  (y232:K.lookup y21=some ⟨oc18,od18,.func (PySem.W.fnOf "attempt" "Runner.attempt" (q0j q2w) (q0g q2w) (q06 q2w) .none kV18 dc18 pm18 an18 cd18 ct18),sl18⟩)
  (y233:PySem.W.codeIn K cd18 "Runner.attempt" = true)
  (y83:PySem.W.keepIn K (.ref y21)=true)
  (y234:PySem.W.findIn K (.ref y1) "go" = some (some (.ref y22)))
  (y235:PySem.W.isFn K (.ref y22)=true)
  (y236:K.lookup y22=some ⟨oc19,od19,.func (PySem.W.fnOf "go" "Runner.go" (q0j rGo) (q0g rGo) (q06 rGo) .none kV19 dc19 pm19 an19 cd19 ct19),sl19⟩)
  (y237:PySem.W.codeIn K cd19 "Runner.go" = true)
  (y84:PySem.W.keepIn K (.ref y22)=true)
  (y238:PySem.W.findIn K (.ref y1) "late" = some (some (.ref y23)))
  (y239:PySem.W.isFn K (.ref y23)=true)
  (y240:K.lookup y23=some ⟨oc20,od20,.func (PySem.W.fnOf "late" "Runner.late" (q0j qb0) (q0g qb0) (q06 qb0) .none kV20 dc20 pm20 an20 cd20 ct20),sl20⟩)
  (y241:PySem.W.codeIn K cd20 "Runner.late" = true)
  (y85:PySem.W.keepIn K (.ref y23)=true)
  (y242:PySem.W.findIn K (.ref y1) "fill" = some (some (.ref y24)))
  (y243:PySem.W.isFn K (.ref y24)=true)
  (y244:K.lookup y24=some ⟨oc21,od21,.func (PySem.W.fnOf "fill" "Runner.fill" (q0j q96) (q0g q96) (q06 q96) .none kV21 dc21 pm21 an21 cd21 ct21),sl21⟩)
  (y245:PySem.W.codeIn K cd21 "Runner.fill" = true)
  (y86:PySem.W.keepIn K (.ref y24)=true)
  (y246:PySem.W.findIn K (.ref y1) "stop" = some (some (.ref y25)))
  (y247:PySem.W.isFn K (.ref y25)=true)
  (y248:K.lookup y25=some ⟨oc22,od22,.func (PySem.W.fnOf "stop" "Runner.stop" (q0j qbe) (q0g qbe) (q06 qbe) .none kV22 dc22 pm22 an22 cd22 ct22),sl22⟩)
  (y249:PySem.W.codeIn K cd22 "Runner.stop" = true)
  (y87:PySem.W.keepIn K (.ref y25)=true)
  (y250:PySem.W.findIn K (.ref y1) "wake" = some (some (.ref y26)))
  (y251:PySem.W.isFn K (.ref y26)=true)
  (y252:K.lookup y26=some ⟨oc23,od23,.func (PySem.W.fnOf "wake" "Runner.wake" (q0j qbt) (q0g qbt) (q06 qbt) .none kV23 dc23 pm23 an23 cd23 ct23),sl23⟩)
  (y253:PySem.W.codeIn K cd23 "Runner.wake" = true)
  (y88:PySem.W.keepIn K (.ref y26)=true)
  (y254:PySem.W.findIn K (.ref y1) "start" = some (some (.ref y27)))
  (y255:PySem.W.isFn K (.ref y27)=true)
  (y256:K.lookup y27=some ⟨oc24,od24,.func (PySem.W.fnOf "start" "Runner.start" (q0j q5u) (q0g q5u) (q06 q5u) .none kV24 dc24 pm24 an24 cd24 ct24),sl24⟩)
  (y257:PySem.W.codeIn K cd24 "Runner.start" = true)
  (y89:PySem.W.keepIn K (.ref y27)=true)
  (y258:PySem.W.nsIn K mainGlobals "done" = some (some (.ref y33)))
  (y259:K.lookup y33=some ⟨oc25,od25,.func (PySem.W.fnOf "done" "done" (q0j q92) (q0g q92) (q06 q92) .none kV25 dc25 pm25 an25 cd25 ct25),sl25⟩)
  (y260:PySem.W.codeIn K cd25 "done" = true)
  (y90:PySem.W.keepIn K (.ref y33)=true)
  (y91:PySem.W.nsIn K mainGlobals "answer" = some (some (.ref y28)))
  (y261:K.lookup y28=some ⟨oc26,od26,.func (PySem.W.fnOf "answer" "answer" (q0j q3y) (q0g q3y) (q06 q3y) .none kV26 dc26 pm26 an26 cd26 ct26),sl26⟩)
  (y262:PySem.W.codeIn K cd26 "answer" = true)
  (y64:PySem.W.keepIn K (.ref y28)=true)
  (y263:PySem.W.nsIn K mainGlobals "answers" = some (some (.ref y34)))
  (y264:K.lookup y34=some ⟨oc27,od27,.func (PySem.W.fnOf "answers" "answers" (q0j q3o) (q0g q3o) (q06 q3o) .none kV27 dc27 pm27 an27 cd27 ct27),sl27⟩)
  (y265:PySem.W.codeIn K cd27 "answers" = true)
  (y92:PySem.W.keepIn K (.ref y34)=true)
  (y266:PySem.W.nsIn K mainGlobals "runner_after" = some (some (.ref y35)))
  (y267:K.lookup y35=some ⟨oc28,od28,.func (PySem.W.fnOf "runner_after" "runner_after" (q0j q6b) (q0g q6b) (q06 q6b) .none kV28 dc28 pm28 an28 cd28 ct28),sl28⟩)
  (y268:PySem.W.codeIn K cd28 "runner_after" = true)
  (y93:PySem.W.keepIn K (.ref y35)=true)
  (y269:PySem.W.nsIn K mainGlobals "keys_after" = some (some (.ref y36)))
  (y270:K.lookup y36=some ⟨oc29,od29,.func (PySem.W.fnOf "keys_after" "keys_after" (q0j qbg) (q0g qbg) (q06 qbg) .none kV29 dc29 pm29 an29 cd29 ct29),sl29⟩)
  (y271:PySem.W.codeIn K cd29 "keys_after" = true)
  (y94:PySem.W.keepIn K (.ref y36)=true)
  (y272:PySem.W.nsIn K mainGlobals "trails_after" = some (some (.ref y37)))
  (y273:K.lookup y37=some ⟨oc30,od30,.func (PySem.W.fnOf "trails_after" "trails_after" (q0j q4v) (q0g q4v) (q06 q4v) .none kV30 dc30 pm30 an30 cd30 ct30),sl30⟩)
  (y274:PySem.W.codeIn K cd30 "trails_after" = true)
  (y95:PySem.W.keepIn K (.ref y37)=true)
  (y275:PySem.W.nsIn K mainGlobals "things_at" = some (some (.ref y38)))
  (y276:K.lookup y38=some ⟨oc31,od31,.func (PySem.W.fnOf "things_at" "things_at" (q0j qbm) (q0g qbm) (q06 qbm) .none kV31 dc31 pm31 an31 cd31 ct31),sl31⟩)
  (y277:PySem.W.codeIn K cd31 "things_at" = true)
  (y96:PySem.W.keepIn K (.ref y38)=true)
  (y278:PySem.W.nsIn K mainGlobals "things_after" = some (some (.ref y39)))
  (y279:K.lookup y39=some ⟨oc32,od32,.func (PySem.W.fnOf "things_after" "things_after" (q0j q4p) (q0g q4p) (q06 q4p) .none kV32 dc32 pm32 an32 cd32 ct32),sl32⟩)
  (y280:PySem.W.codeIn K cd32 "things_after" = true)
  (y97:PySem.W.keepIn K (.ref y39)=true)
  (y281:PySem.W.nsIn K mainGlobals "lost_after" = some (some (.ref y40)))
  (y282:K.lookup y40=some ⟨oc33,od33,.func (PySem.W.fnOf "lost_after" "lost_after" (q0j q6m) (q0g q6m) (q06 q6m) .none kV33 dc33 pm33 an33 cd33 ct33),sl33⟩)
  (y283:PySem.W.codeIn K cd33 "lost_after" = true)
  (y98:PySem.W.keepIn K (.ref y40)=true)
  (y99:PySem.W.nsIn K mainGlobals "_law_so" = some (some (.ref y41)))
  (y284:K.lookup y41=some ⟨oc34,od34,.func (PySem.W.fnOf "_law_so" "_law_so" (q0j sSo) (q0g sSo) (q06 sSo) .none kV34 dc34 pm34 an34 cd34 ct34),sl34⟩)
  (y285:PySem.W.codeIn K cd34 "_law_so" = true)
  (y65:PySem.W.keepIn K (.ref y41)=true)
  (y286:PySem.W.nsIn K mainGlobals "_law_at" = some (some (.ref y42)))
  (y287:K.lookup y42=some ⟨oc35,od35,.func (PySem.W.fnOf "_law_at" "_law_at" (q0j sAt) (q0g sAt) (q06 sAt) .none kV35 dc35 pm35 an35 cd35 ct35),sl35⟩)
  (y288:PySem.W.codeIn K cd35 "_law_at" = true)
  (y100:PySem.W.keepIn K (.ref y42)=true)
  (y289:PySem.W.nsIn K mainGlobals "_law_work_called" = some (some (.ref y43)))
  (y290:K.lookup y43=some ⟨oc36,od36,.func (PySem.W.fnOf "_law_work_called" "_law_work_called" (q0j qb7) (q0g qb7) (q06 qb7) .none kV36 dc36 pm36 an36 cd36 ct36),sl36⟩)
  (y291:PySem.W.codeIn K cd36 "_law_work_called" = true)
  (y101:PySem.W.keepIn K (.ref y43)=true)
  (y292:PySem.W.nsIn K mainGlobals "_law_thing_called" = some (some (.ref y44)))
  (y293:K.lookup y44=some ⟨oc37,od37,.func (PySem.W.fnOf "_law_thing_called" "_law_thing_called" (q0j q65) (q0g q65) (q06 q65) .none kV37 dc37 pm37 an37 cd37 ct37),sl37⟩)
  (y294:PySem.W.codeIn K cd37 "_law_thing_called" = true)
  (y102:PySem.W.keepIn K (.ref y44)=true)
  (y295:PySem.W.nsIn K mainGlobals "_law_stocks_of" = some (some (.ref y45)))
  (y296:K.lookup y45=some ⟨oc38,od38,.func (PySem.W.fnOf "_law_stocks_of" "_law_stocks_of" (q0j q4w) (q0g q4w) (q06 q4w) .none kV38 dc38 pm38 an38 cd38 ct38),sl38⟩)
  (y297:PySem.W.codeIn K cd38 "_law_stocks_of" = true)
  (y103:PySem.W.keepIn K (.ref y45)=true)
  (y298:PySem.W.nsIn K mainGlobals "_law_steps_of" = some (some (.ref y46)))
  (y299:K.lookup y46=some ⟨oc39,od39,.func (PySem.W.fnOf "_law_steps_of" "_law_steps_of" (q0j q6a) (q0g q6a) (q06 q6a) .none kV39 dc39 pm39 an39 cd39 ct39),sl39⟩)
  (y300:PySem.W.codeIn K cd39 "_law_steps_of" = true)
  (y104:PySem.W.keepIn K (.ref y46)=true)
  (y301:PySem.W.nsIn K mainGlobals "_law_deed_of" = some (some (.ref y47)))
  (y302:K.lookup y47=some ⟨oc40,od40,.func (PySem.W.fnOf "_law_deed_of" "_law_deed_of" (q0j q7v) (q0g q7v) (q06 q7v) .none kV40 dc40 pm40 an40 cd40 ct40),sl40⟩)
  (y303:PySem.W.codeIn K cd40 "_law_deed_of" = true)
  (y105:PySem.W.keepIn K (.ref y47)=true)
  (y304:PySem.W.nsIn K mainGlobals "_law_drawn" = some (some (.ref y48)))
  (y305:K.lookup y48=some ⟨oc41,od41,.func (PySem.W.fnOf "_law_drawn" "_law_drawn" (q0j q68) (q0g q68) (q06 q68) .none kV41 dc41 pm41 an41 cd41 ct41),sl41⟩)
  (y306:PySem.W.codeIn K cd41 "_law_drawn" = true)
  (y106:PySem.W.keepIn K (.ref y48)=true)
  (y307:PySem.W.nsIn K mainGlobals "_law_copy" = some (some (.ref y49)))
  (y308:K.lookup y49=some ⟨oc42,od42,.func (PySem.W.fnOf "_law_copy" "_law_copy" (q0j qbq) (q0g qbq) (q06 qbq) .none kV42 dc42 pm42 an42 cd42 ct42),sl42⟩)
  (y309:PySem.W.codeIn K cd42 "_law_copy" = true)
  (y107:PySem.W.keepIn K (.ref y49)=true)
  (y310:PySem.W.nsIn K mainGlobals "_law_copied" = some (some (.ref y50)))
  (y311:K.lookup y50=some ⟨oc43,od43,.func (PySem.W.fnOf "_law_copied" "_law_copied" (q0j q4s) (q0g q4s) (q06 q4s) .none kV43 dc43 pm43 an43 cd43 ct43),sl43⟩)
  (y312:PySem.W.codeIn K cd43 "_law_copied" = true)
  (y108:PySem.W.keepIn K (.ref y50)=true)
  (y313:PySem.W.nsIn K mainGlobals "_law_whole" = some (some (.ref y51)))
  (y314:K.lookup y51=some ⟨oc44,od44,.func (PySem.W.fnOf "_law_whole" "_law_whole" (q0j q6l) (q0g q6l) (q06 q6l) .none kV44 dc44 pm44 an44 cd44 ct44),sl44⟩)
  (y315:PySem.W.codeIn K cd44 "_law_whole" = true)
  (y109:PySem.W.keepIn K (.ref y51)=true)
  (y316:PySem.W.nsIn K mainGlobals "_law_is_entry" = some (some (.ref y52)))
  (y317:K.lookup y52=some ⟨oc45,od45,.func (PySem.W.fnOf "_law_is_entry" "_law_is_entry" (q0j qaw) (q0g qaw) (q06 qaw) .none kV45 dc45 pm45 an45 cd45 ct45),sl45⟩)
  (y318:PySem.W.codeIn K cd45 "_law_is_entry" = true)
  (y110:PySem.W.keepIn K (.ref y52)=true)
  (y319:PySem.W.nsIn K mainGlobals "_law_are_trails" = some (some (.ref y53)))
  (y320:K.lookup y53=some ⟨oc46,od46,.func (PySem.W.fnOf "_law_are_trails" "_law_are_trails" (q0j q64) (q0g q64) (q06 q64) .none kV46 dc46 pm46 an46 cd46 ct46),sl46⟩)
  (y321:PySem.W.codeIn K cd46 "_law_are_trails" = true)
  (y111:PySem.W.keepIn K (.ref y53)=true)
  (y322:PySem.W.nsIn K mainGlobals "_law_are_things" = some (some (.ref y54)))
  (y323:K.lookup y54=some ⟨oc47,od47,.func (PySem.W.fnOf "_law_are_things" "_law_are_things" (q0j q66) (q0g q66) (q06 q66) .none kV47 dc47 pm47 an47 cd47 ct47),sl47⟩)
  (y324:PySem.W.codeIn K cd47 "_law_are_things" = true)
  (y112:PySem.W.keepIn K (.ref y54)=true)
  (y325:PySem.W.nsIn K mainGlobals "_law_are_keys" = some (some (.ref y55)))
  (y326:K.lookup y55=some ⟨oc48,od48,.func (PySem.W.fnOf "_law_are_keys" "_law_are_keys" (q0j qau) (q0g qau) (q06 qau) .none kV48 dc48 pm48 an48 cd48 ct48),sl48⟩)
  (y327:PySem.W.codeIn K cd48 "_law_are_keys" = true)
  (y113:PySem.W.keepIn K (.ref y55)=true)
  (y328:PySem.W.nsIn K mainGlobals "_law_next" = some (some (.ref y56)))
  (y329:K.lookup y56=some ⟨oc49,od49,.func (PySem.W.fnOf "_law_next" "_law_next" (q0j qb2) (q0g qb2) (q06 qb2) .none kV49 dc49 pm49 an49 cd49 ct49),sl49⟩)
  (y330:PySem.W.codeIn K cd49 "_law_next" = true)
  (y114:PySem.W.keepIn K (.ref y56)=true)
  (y331:PySem.W.nsIn K mainGlobals "_law_new" = some (some (.ref y57)))
  (y332:K.lookup y57=some ⟨oc50,od50,.func (PySem.W.fnOf "_law_new" "_law_new" (q0j sNew) (q0g sNew) (q06 sNew) .none kV50 dc50 pm50 an50 cd50 ct50),sl50⟩)
  (y333:PySem.W.codeIn K cd50 "_law_new" = true)
  (y115:PySem.W.keepIn K (.ref y57)=true)
  (y334:PySem.W.nsIn K mainGlobals "_law_key_at" = some (some (.ref y58)))
  (y335:K.lookup y58=some ⟨oc51,od51,.func (PySem.W.fnOf "_law_key_at" "_law_key_at" (q0j q6o) (q0g q6o) (q06 q6o) .none kV51 dc51 pm51 an51 cd51 ct51),sl51⟩)
  (y336:PySem.W.codeIn K cd51 "_law_key_at" = true)
  (y116:PySem.W.keepIn K (.ref y58)=true)
  (y337:PySem.W.nsIn K mainGlobals "_law_at_desk" = some (some (.ref y59)))
  (y338:K.lookup y59=some ⟨oc52,od52,.func (PySem.W.fnOf "_law_at_desk" "_law_at_desk" (q0j q4u) (q0g q4u) (q06 q4u) .none kV52 dc52 pm52 an52 cd52 ct52),sl52⟩)
  (y339:PySem.W.codeIn K cd52 "_law_at_desk" = true)
  (y117:PySem.W.keepIn K (.ref y59)=true)
  (y340:PySem.W.nsIn K mainGlobals "_law_gone" = some (some (.ref y60)))
  (y341:K.lookup y60=some ⟨oc53,od53,.func (PySem.W.fnOf "_law_gone" "_law_gone" (q0j qbr) (q0g qbr) (q06 qbr) .none kV53 dc53 pm53 an53 cd53 ct53),sl53⟩)
  (y342:PySem.W.codeIn K cd53 "_law_gone" = true)
  (y118:PySem.W.keepIn K (.ref y60)=true)
  (y343:PySem.W.nsIn K mainGlobals "_law_due_answer" = some (some (.ref y61)))
  (y344:K.lookup y61=some ⟨oc54,od54,.func (PySem.W.fnOf "_law_due_answer" "_law_due_answer" (q0j qbo) (q0g qbo) (q06 qbo) .none kV54 dc54 pm54 an54 cd54 ct54),sl54⟩)
  (y345:PySem.W.codeIn K cd54 "_law_due_answer" = true)
  (y119:PySem.W.keepIn K (.ref y61)=true)
  (y346:PySem.W.nsIn K mainGlobals "_law_alike" = some (some (.ref y62)))
  (y347:K.lookup y62=some ⟨oc55,od55,.func (PySem.W.fnOf "_law_alike" "_law_alike" (q0j q6p) (q0g q6p) (q06 q6p) .none kV55 dc55 pm55 an55 cd55 ct55),sl55⟩)
  (y348:PySem.W.codeIn K cd55 "_law_alike" = true)
  (y120:PySem.W.keepIn K (.ref y62)=true)
  (y349:PySem.W.nsIn K mainGlobals "law" = some (some (.ref y122)))
  (y350:K.lookup y122=some ⟨oc56,od56,.func (PySem.W.fnOf "law" "law" (q0j sLaw) (q0g sLaw) (q06 sLaw) .none kV56 dc56 pm56 an56 cd56 ct56),sl56⟩)
  (y351:PySem.W.codeIn K cd56 "law" = true)
  (y352:PySem.W.keepIn K (.ref y122)=true)
  (y353:PySem.W.nsIn K mainGlobals "len" = some none)
  (y354:PySem.W.nsIn K mainGlobals "isinstance" = some none)
  (y355:PySem.W.nsIn K mainGlobals "dict" = some none)
  (y356:PySem.W.nsIn K mainGlobals "list" = some none)
  (y357:PySem.W.nsIn K mainGlobals "tuple" = some none)
  (y358:PySem.W.nsIn K mainGlobals "int" = some none)
  (y359:PySem.W.nsIn K mainGlobals "bool" = some none)
  (y360:PySem.W.nsIn K mainGlobals "str" = some none)
  (y361:PySem.W.nsIn K mainGlobals "range" = some none)
  (y362:PySem.W.nsIn K mainGlobals "enumerate" = some none)
  (y363:PySem.W.nsIn K mainGlobals "min" = some none)
  (y364:PySem.W.nsIn K mainGlobals "max" = some none)
  (y365:PySem.W.nsIn K mainGlobals "sorted" = some none)
  (y366:PySem.W.nsIn K mainGlobals "set" = some none)
  (y367:PySem.W.nsIn K mainGlobals "sum" = some none)
  (y368:PySem.W.nsIn K mainGlobals "abs" = some none)
  (y369:PySem.W.nsIn K mainGlobals "zip" = some none)
  (y370:PySem.W.nsIn K mainGlobals "any" = some none)
  (y371:PySem.W.nsIn K mainGlobals "all" = some none)
  (y372:PySem.W.nsIn K mainGlobals "reversed" = some none) :
  ∃ fd:FuncData,(∀ (s:Shared) (v:Value),BindsTo s fd ⟨[v],[]⟩ [("_law_script",v)])∧∀ base:Heap,K.In base→base.Ns mainGlobals mg→FnOk l.prog w K mg base CX0 13 fa fd ["_law_script"] (qfn K):=by
 have e:=hfa.symm.trans (PySem.W.mg_of X G y349)
 cases e
 have B:Blt mg:=⟨PySem.W.mg_none_of X G y353,PySem.W.mg_none_of X G y354,PySem.W.mg_none_of X G y355,PySem.W.mg_none_of X G y356,PySem.W.mg_none_of X G y357,PySem.W.mg_none_of X G y358,PySem.W.mg_none_of X G y359,PySem.W.mg_none_of X G y360,PySem.W.mg_none_of X G y361,PySem.W.mg_none_of X G y362,PySem.W.mg_none_of X G y363,PySem.W.mg_none_of X G y364,PySem.W.mg_none_of X G y365,PySem.W.mg_none_of X G y366,PySem.W.mg_none_of X G y367,PySem.W.mg_none_of X G y368,PySem.W.mg_none_of X G y369,PySem.W.mg_none_of X G y370,PySem.W.mg_none_of X G y371,PySem.W.mg_none_of X G y372⟩
 have y4:Txt K mg y2:=⟨⟨y140,y141,y142,y143⟩,y146,y147⟩
 have y3:TxtR K mg y1:=⟨⟨y149,y150,y151,y152⟩,y155,y156,y157,y158,y159,y160,y161⟩
 have y375:=q0v (st:=sDo) y163 y164 y66
 have y452:=y375.binds (ps:=["many","step"]) fun _ _ _ _ _ _ us hl=>match us,hl with | [_,_],_=>rfl
 have y376:=q0v (st:=sUn) y166 y167 y67
 have y453:=y376.binds (ps:=["step"]) fun _ _ _ _ _ _ us hl=>match us,hl with | [_],_=>rfl
 have y377:=q0v (st:=sBeh) y169 y170 y68
 have y454:=y377.binds (ps:=["many","word","step"]) fun _ _ _ _ _ _ us hl=>match us,hl with | [_,_,_],_=>rfl
 have y378:=q0v (st:=sNx) y172 y173 y69
 have y455:=y378.binds (ps:=["many","trail"]) fun _ _ _ _ _ _ us hl=>match us,hl with | [_,_],_=>rfl
 have y379:=q0v (st:=qba) y176 y177 y178
 have y456:=y379.binds (ps:=["self","things"]) fun _ _ _ _ _ _ us hl=>match us,hl with | [_,_],_=>rfl
 have y380:=q0v (st:=sHas) y181 y182 y70
 have y457:=y380.binds (ps:=["self","thing"]) fun _ _ _ _ _ _ us hl=>match us,hl with | [_,_],_=>rfl
 have y381:=q0v (st:=qan) y185 y186 y71
 have y458:=y381.binds (ps:=["self","thing","many"]) fun _ _ _ _ _ _ us hl=>match us,hl with | [_,_,_],_=>rfl
 have y382:=q0v (st:=q6q) y189 y190 y72
 have y459:=y382.binds (ps:=["self","key","thing","many"]) fun _ _ _ _ _ _ us hl=>match us,hl with | [_,_,_,_],_=>rfl
 have y383:=q0v (st:=sPut) y193 y194 y73
 have y460:=y383.binds (ps:=["self","thing","many"]) fun _ _ _ _ _ _ us hl=>match us,hl with | [_,_,_],_=>rfl
 have y384:=q0v (st:=qb5) y197 y198 y74
 have y461:=y384.binds (ps:=["self","key","thing","many"]) fun _ _ _ _ _ _ us hl=>match us,hl with | [_,_,_,_],_=>rfl
 have y385:=q0v (st:=qb3) y201 y202 y75
 have y462:=y385.binds (ps:=["self","request"]) fun _ _ _ _ _ _ us hl=>match us,hl with | [_,_],_=>rfl
 have y386:=q0v (st:=qat) y205 y206 y207
 have y463:=y386.binds (ps:=["self","stocks","bound"]) fun _ _ _ _ _ _ us hl=>match us,hl with | [_,_,_],_=>rfl
 have y387:=q0v (st:=q41) y208 y209 y63
 have y388:=y387.binds (ps:=["self","number"]) fun _ _ _ _ _ _ us hl=>match us,hl with | [_,_],_=>rfl
 have y389:=q0v (st:=q4t) y212 y213 y78
 have y464:=y389.binds (ps:=["self","sent"]) fun _ _ _ _ _ _ us hl=>match us,hl with | [_,_],_=>rfl
 have y390:=q0v (st:=rReq) y216 y217 y79
 have y465:=y390.binds (ps:=["self","name","coming"]) fun _ _ _ _ _ _ us hl=>match us,hl with | [_,_,_],_=>rfl
 have y391:=q0v (st:=qbh) y220 y221 y80
 have y466:=y391.binds (ps:=["self","sent","luck"]) fun _ _ _ _ _ _ us hl=>match us,hl with | [_,_,_],_=>rfl
 have y392:=q0v (st:=q3k) y224 y225 y81
 have y467:=y392.binds (ps:=["self","name","coming"]) fun _ _ _ _ _ _ us hl=>match us,hl with | [_,_,_],_=>rfl
 have y393:=q0v (st:=q3n) y228 y229 y82
 have y468:=y393.binds (ps:=["self","name","entry"]) fun _ _ _ _ _ _ us hl=>match us,hl with | [_,_,_],_=>rfl
 have y394:=q0v (st:=q2w) y232 y233 y83
 have y469:=y394.binds (ps:=["self","name","coming","luck"]) fun _ _ _ _ _ _ us hl=>match us,hl with | [_,_,_,_],_=>rfl
 have y395:=q0v (st:=rGo) y236 y237 y84
 have y470:=y395.binds (ps:=["self","name","luck"]) fun _ _ _ _ _ _ us hl=>match us,hl with | [_,_,_],_=>rfl
 have y396:=q0v (st:=qb0) y240 y241 y85
 have y471:=y396.binds (ps:=["self","which"]) fun _ _ _ _ _ _ us hl=>match us,hl with | [_,_],_=>rfl
 have y397:=q0v (st:=q96) y244 y245 y86
 have y472:=y397.binds (ps:=["self","number","thing","many"]) fun _ _ _ _ _ _ us hl=>match us,hl with | [_,_,_,_],_=>rfl
 have y398:=q0v (st:=qbe) y248 y249 y87
 have y473:=y398.binds (ps:=["self"]) fun _ _ _ _ _ _ us hl=>match us,hl with | [_],_=>rfl
 have y399:=q0v (st:=qbt) y252 y253 y88
 have y474:=y399.binds (ps:=["self"]) fun _ _ _ _ _ _ us hl=>match us,hl with | [_],_=>rfl
 have y400:=q0v (st:=q5u) y256 y257 y89
 have y475:=y400.binds (ps:=["self","name","steps"]) fun _ _ _ _ _ _ us hl=>match us,hl with | [_,_,_],_=>rfl
 have y401:=q0v (st:=q92) y259 y260 y90
 have y476:=y401.binds (ps:=["runner","deed"]) fun _ _ _ _ _ _ us hl=>match us,hl with | [_,_],_=>rfl
 have y402:=q0v (st:=q3y) y261 y262 y64
 have y403:=y402.binds (ps:=["runner","deed"]) fun _ _ _ _ _ _ us hl=>match us,hl with | [_,_],_=>rfl
 have y404:=q0v (st:=q3o) y264 y265 y92
 have y477:=y404.binds (ps:=["stocks","bound","deeds"]) fun _ _ _ _ _ _ us hl=>match us,hl with | [_,_,_],_=>rfl
 have y405:=q0v (st:=q6b) y267 y268 y93
 have y478:=y405.binds (ps:=["stocks","bound","deeds"]) fun _ _ _ _ _ _ us hl=>match us,hl with | [_,_,_],_=>rfl
 have y406:=q0v (st:=qbg) y270 y271 y94
 have y479:=y406.binds (ps:=["stocks","bound","deeds"]) fun _ _ _ _ _ _ us hl=>match us,hl with | [_,_,_],_=>rfl
 have y407:=q0v (st:=q4v) y273 y274 y95
 have y480:=y407.binds (ps:=["stocks","bound","deeds"]) fun _ _ _ _ _ _ us hl=>match us,hl with | [_,_,_],_=>rfl
 have y408:=q0v (st:=qbm) y276 y277 y96
 have y481:=y408.binds (ps:=["desk"]) fun _ _ _ _ _ _ us hl=>match us,hl with | [_],_=>rfl
 have y409:=q0v (st:=q4p) y279 y280 y97
 have y482:=y409.binds (ps:=["stocks","bound","deeds"]) fun _ _ _ _ _ _ us hl=>match us,hl with | [_,_,_],_=>rfl
 have y410:=q0v (st:=q6m) y282 y283 y98
 have y483:=y410.binds (ps:=["stocks","bound","deeds"]) fun _ _ _ _ _ _ us hl=>match us,hl with | [_,_,_],_=>rfl
 have y411:=q0v (st:=sSo) y284 y285 y65
 have y412:=y411.binds (ps:=["_law_found","_law_meant"]) fun _ _ _ _ _ _ us hl=>match us,hl with | [_,_],_=>rfl
 have y413:=q0v (st:=sAt) y287 y288 y100
 have y484:=y413.binds (ps:=["_law_script","_law_k"]) fun _ _ _ _ _ _ us hl=>match us,hl with | [_,_],_=>rfl
 have y414:=q0v (st:=qb7) y290 y291 y101
 have y485:=y414.binds (ps:=["_law_j","_law_count"]) fun _ _ _ _ _ _ us hl=>match us,hl with | [_,_],_=>rfl
 have y415:=q0v (st:=q65) y293 y294 y102
 have y486:=y415.binds (ps:=["_law_j","_law_count"]) fun _ _ _ _ _ _ us hl=>match us,hl with | [_,_],_=>rfl
 have y416:=q0v (st:=q4w) y296 y297 y103
 have y487:=y416.binds (ps:=["_law_cell","_law_count"]) fun _ _ _ _ _ _ us hl=>match us,hl with | [_,_],_=>rfl
 have y417:=q0v (st:=q6a) y299 y300 y104
 have y488:=y417.binds (ps:=["_law_cell","_law_count"]) fun _ _ _ _ _ _ us hl=>match us,hl with | [_,_],_=>rfl
 have y418:=q0v (st:=q7v) y302 y303 y105
 have y489:=y418.binds (ps:=["_law_cell","_law_k","_law_count"]) fun _ _ _ _ _ _ us hl=>match us,hl with | [_,_,_],_=>rfl
 have y419:=q0v (st:=q68) y305 y306 y106
 have y490:=y419.binds (ps:=["_law_script","_law_count"]) fun _ _ _ _ _ _ us hl=>match us,hl with | [_,_],_=>rfl
 have y420:=q0v (st:=qbq) y308 y309 y107
 have y491:=y420.binds (ps:=["_law_deeds"]) fun _ _ _ _ _ _ us hl=>match us,hl with | [_],_=>rfl
 have y421:=q0v (st:=q4s) y311 y312 y108
 have y492:=y421.binds (ps:=["_law_stocks"]) fun _ _ _ _ _ _ us hl=>match us,hl with | [_],_=>rfl
 have y422:=q0v (st:=q6l) y314 y315 y109
 have y493:=y422.binds (ps:=["_law_found"]) fun _ _ _ _ _ _ us hl=>match us,hl with | [_],_=>rfl
 have y423:=q0v (st:=qaw) y317 y318 y110
 have y494:=y423.binds (ps:=["_law_found"]) fun _ _ _ _ _ _ us hl=>match us,hl with | [_],_=>rfl
 have y424:=q0v (st:=q64) y320 y321 y111
 have y495:=y424.binds (ps:=["_law_found"]) fun _ _ _ _ _ _ us hl=>match us,hl with | [_],_=>rfl
 have y425:=q0v (st:=q66) y323 y324 y112
 have y496:=y425.binds (ps:=["_law_found","_law_count"]) fun _ _ _ _ _ _ us hl=>match us,hl with | [_,_],_=>rfl
 have y426:=q0v (st:=qau) y326 y327 y113
 have y497:=y426.binds (ps:=["_law_found","_law_count"]) fun _ _ _ _ _ _ us hl=>match us,hl with | [_,_],_=>rfl
 have y427:=q0v (st:=qb2) y329 y330 y114
 have y498:=y427.binds (ps:=["_law_many","_law_trail"]) fun _ _ _ _ _ _ us hl=>match us,hl with | [_,_],_=>rfl
 have y428:=q0v (st:=sNew) y332 y333 y115
 have y499:=y428.binds (ps:=["_law_stocks","_law_bound"]) fun _ _ _ _ _ _ us hl=>match us,hl with | [_,_],_=>rfl
 have y429:=q0v (st:=q6o) y335 y336 y116
 have y500:=y429.binds (ps:=["_law_rows","_law_key"]) fun _ _ _ _ _ _ us hl=>match us,hl with | [_,_],_=>rfl
 have y430:=q0v (st:=q4u) y338 y339 y117
 have y501:=y430.binds (ps:=["_law_yard","_law_desk","_law_request"]) fun _ _ _ _ _ _ us hl=>match us,hl with | [_,_,_],_=>rfl
 have y431:=q0v (st:=qbr) y341 y342 y118
 have y502:=y431.binds (ps:=["_law_yard","_law_work","_law_luck"]) fun _ _ _ _ _ _ us hl=>match us,hl with | [_,_,_],_=>rfl
 have y432:=q0v (st:=qbo) y344 y345 y119
 have y503:=y432.binds (ps:=["_law_yard","_law_deed"]) fun _ _ _ _ _ _ us hl=>match us,hl with | [_,_],_=>rfl
 have y433:=q0v (st:=q6p) y347 y348 y120
 have y504:=y433.binds (ps:=["_law_found","_law_due"]) fun _ _ _ _ _ _ us hl=>match us,hl with | [_,_],_=>rfl
 have y434:=q0v (st:=sLaw) y350 y351 y352
 have y602:=y434.binds (ps:=["_law_script"]) fun _ _ _ _ _ _ us hl=>match us,hl with | [_],_=>rfl
 refine⟨PySem.W.fnOf "law" "law" (q0j sLaw) (q0g sLaw) (q06 sLaw) .none kV56 dc56 pm56 an56 cd56 ct56,fun s v=> .of_eq rfl,fun base kb nb=> ?_⟩
 have y505:XCls K y5:=⟨y125,y126,y127,x_hn,x_tk,y128,y129,y130⟩
 have y435:=PySem.W.mg_of X G y123
 have y506:XCls K y6:=⟨y132,y133,y134,x_hn,x_tk,y135,y136,y137⟩
 have y436:=PySem.W.mg_of X G y124
 have y507:FnOk l.prog w K mg base CX0 _ y29 _ _ _:=(qlr y375)
 have y437:Df l.prog w K mg base CX0 _ "do_or_done" _ _:=⟨⟨y29,_,PySem.W.mg_of X G y162,y66,y452,y507⟩⟩
 have y508:FnOk l.prog w K mg base CX0 _ y30 _ _ _:=(qm1 y376)
 have y509:Df l.prog w K mg base CX0 _ "undo_or_undone" _ _:=⟨⟨y30,_,PySem.W.mg_of X G y165,y67,y453,y508⟩⟩
 have y510:FnOk l.prog w K mg base CX0 _ y31 _ _ _:=(qjm y377 y437 y509)
 have y511:Df l.prog w K mg base CX0 _ "next_behind" _ _:=⟨⟨y31,_,PySem.W.mg_of X G y168,y68,y454,y510⟩⟩
 have y512:FnOk l.prog w K mg base CX0 _ y32 _ _ _:=(qm0 y378 y437 y511)
 have y513:Df l.prog w K mg base CX0 _ "next_of" _ _:=⟨⟨y32,_,PySem.W.mg_of X G y171,y69,y455,y512⟩⟩
 have y514:FnOk l.prog w K mg base CX0 _ y8 _ _ _:=(qhn y379 y4 B)
 have y515:Cd l.prog w K mg base CX0 y2 _ "Desk" _ _:=⟨⟨y8,_,PySem.W.mg_of X G y139,⟨y144,y174,y175,y145⟩,y456,y514⟩⟩
 have y516:FnOk l.prog w K mg base CX0 _ y9 _ _ _:=(qkl y380 y4)
 have y438:Md l.prog w K mg base CX0 y2 _ "has" _ _:=⟨y4.cl,⟨y9,_,⟨y179,y180,y70⟩,y457,y516⟩⟩
 have y517:FnOk l.prog w K mg base CX0 _ y10 _ _ _:=(qie y381 y4 y438)
 have y518:Md l.prog w K mg base CX0 y2 _ "take" _ _:=⟨y4.cl,⟨y10,_,⟨y183,y184,y71⟩,y458,y517⟩⟩
 have y519:FnOk l.prog w K mg base CX0 _ y11 _ _ _:=(qkm y382 y4 y518)
 have y520:Md l.prog w K mg base CX0 y2 _ "do" _ _:=⟨y4.cl,⟨y11,_,⟨y187,y188,y72⟩,y459,y519⟩⟩
 have y521:FnOk l.prog w K mg base CX0 _ y12 _ _ _:=(qla y383 y4 y438)
 have y439:Md l.prog w K mg base CX0 y2 _ "put" _ _:=⟨y4.cl,⟨y12,_,⟨y191,y192,y73⟩,y460,y521⟩⟩
 have y522:FnOk l.prog w K mg base CX0 _ y13 _ _ _:=(qes y384 y4 y439)
 have y523:Md l.prog w K mg base CX0 y2 _ "undo" _ _:=⟨y4.cl,⟨y13,_,⟨y195,y196,y74⟩,y461,y522⟩⟩
 have y524:FnOk l.prog w K mg base CX0 _ y14 _ _ _:=(qho y385 y4 y520 y523)
 have y525:Md l.prog w K mg base CX0 y2 _ "told" _ _:=⟨y4.cl,⟨y14,_,⟨y199,y200,y75⟩,y462,y524⟩⟩
 have y526:FnOk l.prog w K mg base CX0 _ y15 _ _ _:=(qfq y386 y3 y515)
 have y440:Cd l.prog w K mg base CX0 y1 _ "Runner" _ _:=⟨⟨y15,_,PySem.W.mg_of X G y148,⟨y153,y203,y204,y154⟩,y463,y526⟩⟩
 have y441:FnOk l.prog w K mg base (CX1 l.prog w) _ y7 _ _ _:=(qd7 (Cd:=y2) y387 y3 B y435 y131)
 have y442:Md l.prog w K mg base (CX1 l.prog w) y1 _ "desk_at" _ _:=⟨y3.cl,⟨y7,_,⟨y76,y77,y63⟩,y388,y441⟩⟩
 have y527:Md l.prog w K mg base CX0 y1 _ "desk_at" _ _:=⟨y3.cl,⟨y7,_,⟨y76,y77,y63⟩,y388,q9h y441⟩⟩
 have y528:FnOk l.prog w K mg base CX0 _ y16 _ _ _:=(qdj y389 y527 y525)
 have y443:Md l.prog w K mg base CX0 y1 _ "arrive" _ _:=⟨y3.cl,⟨y16,_,⟨y210,y211,y78⟩,y464,y528⟩⟩
 have y529:FnOk l.prog w K mg base CX0 _ y17 _ _ _:=(qky (Cd:=y2) y390 y3)
 have y530:Md l.prog w K mg base CX0 y1 _ "request_for" _ _:=⟨y3.cl,⟨y17,_,⟨y214,y215,y79⟩,y465,y529⟩⟩
 have y531:FnOk l.prog w K mg base CX0 _ y18 _ _ _:=(qi9 y391 y3 y443)
 have y532:Md l.prog w K mg base CX0 y1 _ "send" _ _:=⟨y3.cl,⟨y18,_,⟨y218,y219,y80⟩,y466,y531⟩⟩
 have y533:FnOk l.prog w K mg base CX0 _ y19 _ _ _:=(qbd (Cd:=y2) y392 y3)
 have y534:Md l.prog w K mg base CX0 y1 _ "unheard" _ _:=⟨y3.cl,⟨y19,_,⟨y222,y223,y81⟩,y467,y533⟩⟩
 have y535:FnOk l.prog w K mg base CX0 _ y20 _ _ _:=(qb6 (Cd:=y2) y393 y3)
 have y536:Md l.prog w K mg base CX0 y1 _ "written" _ _:=⟨y3.cl,⟨y20,_,⟨y226,y227,y82⟩,y468,y535⟩⟩
 have y537:FnOk l.prog w K mg base CX0 _ y21 _ _ _:=(qbl y394 y3 y530 y532 y534 y536)
 have y538:Md l.prog w K mg base CX0 y1 _ "attempt" _ _:=⟨y3.cl,⟨y21,_,⟨y230,y231,y83⟩,y469,y537⟩⟩
 have y539:FnOk l.prog w K mg base (CX1 l.prog w) _ y22 _ _ _:=(qlz y395 y3 B y513 y538 y436 y138)
 have y540:Md l.prog w K mg base (CX1 l.prog w) y1 _ "go" _ _:=⟨y3.cl,⟨y22,_,⟨y234,y235,y84⟩,y470,y539⟩⟩
 have y541:FnOk l.prog w K mg base CX0 _ y23 _ _ _:=(qi2 y396 y3 B y443)
 have y542:Md l.prog w K mg base CX0 y1 _ "late" _ _:=⟨y3.cl,⟨y23,_,⟨y238,y239,y85⟩,y471,y541⟩⟩
 have y543:FnOk l.prog w K mg base (CX1 l.prog w) _ y24 _ _ _:=(qip y397 y442 y439)
 have y544:Md l.prog w K mg base (CX1 l.prog w) y1 _ "fill" _ _:=⟨y3.cl,⟨y24,_,⟨y242,y243,y86⟩,y472,y543⟩⟩
 have y545:FnOk l.prog w K mg base CX0 _ y25 _ _ _:=(qhp (Cd:=y2) y398 y3)
 have y546:Md l.prog w K mg base CX0 y1 _ "stop" _ _:=⟨y3.cl,⟨y25,_,⟨y246,y247,y87⟩,y473,y545⟩⟩
 have y547:FnOk l.prog w K mg base CX0 _ y26 _ _ _:=(qim (Cd:=y2) y399 y3)
 have y548:Md l.prog w K mg base CX0 y1 _ "wake" _ _:=⟨y3.cl,⟨y26,_,⟨y250,y251,y88⟩,y474,y547⟩⟩
 have y549:FnOk l.prog w K mg base (CX1 l.prog w) _ y27 _ _ _:=(qfz y400 y3 B y442)
 have y550:Md l.prog w K mg base (CX1 l.prog w) y1 _ "start" _ _:=⟨y3.cl,⟨y27,_,⟨y254,y255,y89⟩,y475,y549⟩⟩
 have y551:FnOk l.prog w K mg base (CX1 l.prog w) _ y33 _ _ _:=(qhq y401 y550 y540 y542 y544 y546 y548)
 have y552:Df l.prog w K mg base (CX1 l.prog w) _ "done" _ _:=⟨⟨y33,_,PySem.W.mg_of X G y258,y90,y476,y551⟩⟩
 have y444:FnOk l.prog w K mg base (CX1 l.prog w) _ y28 _ _ _:=(qcg y402 y552 y435 y505 y436 y506 m_D m_WD m_W)
 have y603:Df l.prog w K mg base (CX1 l.prog w) _ "answer" _ _:=⟨⟨y28,_,PySem.W.mg_of X G y91,y64,y403,y444⟩⟩
 have y445:Df l.prog w K mg base CX0 _ "answer" _ _:=⟨⟨y28,_,PySem.W.mg_of X G y91,y64,y403,q8r y444⟩⟩
 have y553:FnOk l.prog w K mg base CX0 _ y34 _ _ _:=(qaz y404 y440 y445)
 have y554:Df l.prog w K mg base CX0 _ "answers" _ _:=⟨⟨y34,_,PySem.W.mg_of X G y263,y92,y477,y553⟩⟩
 have y555:FnOk l.prog w K mg base CX0 _ y35 _ _ _:=(qej y405 y440 y445)
 have y121:Df l.prog w K mg base CX0 _ "runner_after" _ _:=⟨⟨y35,_,PySem.W.mg_of X G y266,y93,y478,y555⟩⟩
 have y556:FnOk l.prog w K mg base CX0 _ y36 _ _ _:=(qhm y406 y3 y4 B y121)
 have y557:Df l.prog w K mg base CX0 _ "keys_after" _ _:=⟨⟨y36,_,PySem.W.mg_of X G y269,y94,y479,y556⟩⟩
 have y558:FnOk l.prog w K mg base CX0 _ y37 _ _ _:=(qd9 y407 y3 B y121)
 have y559:Df l.prog w K mg base CX0 _ "trails_after" _ _:=⟨⟨y37,_,PySem.W.mg_of X G y272,y95,y480,y558⟩⟩
 have y560:FnOk l.prog w K mg base CX0 _ y38 _ _ _:=(qjg y408 y4 B)
 have y561:Df l.prog w K mg base CX0 _ "things_at" _ _:=⟨⟨y38,_,PySem.W.mg_of X G y275,y96,y481,y560⟩⟩
 have y562:FnOk l.prog w K mg base CX0 _ y39 _ _ _:=(qe7 y409 y3 y121 y561)
 have y563:Df l.prog w K mg base CX0 _ "things_after" _ _:=⟨⟨y39,_,PySem.W.mg_of X G y278,y97,y482,y562⟩⟩
 have y564:FnOk l.prog w K mg base CX0 _ y40 _ _ _:=(qep y410 y3 y121)
 have y565:Df l.prog w K mg base CX0 _ "lost_after" _ _:=⟨⟨y40,_,PySem.W.mg_of X G y281,y98,y483,y564⟩⟩
 have y566:FnOk l.prog w K mg base CX0 _ y41 _ _ _:=(qh6 y411 B (PySem.W.mg_of X G y99) y65 y412 3)
 have y567:Df l.prog w K mg base CX0 _ "_law_so" _ _:=⟨⟨y41,_,PySem.W.mg_of X G y99,y65,y412,y566⟩⟩
 have y568:FnOk l.prog w K mg base CX0 _ y42 _ _ _:=(qln y413 B)
 have y446:Df l.prog w K mg base CX0 _ "_law_at" _ _:=⟨⟨y42,_,PySem.W.mg_of X G y286,y100,y484,y568⟩⟩
 have y569:FnOk l.prog w K mg base CX0 _ y43 _ _ _:=(qj3 y414)
 have y447:Df l.prog w K mg base CX0 _ "_law_work_called" _ _:=⟨⟨y43,_,PySem.W.mg_of X G y289,y101,y485,y569⟩⟩
 have y570:FnOk l.prog w K mg base CX0 _ y44 _ _ _:=(qeq y415)
 have y373:Df l.prog w K mg base CX0 _ "_law_thing_called" _ _:=⟨⟨y44,_,PySem.W.mg_of X G y292,y102,y486,y570⟩⟩
 have y571:FnOk l.prog w K mg base CX0 _ y45 _ _ _:=(qdg y416 B y373)
 have y572:Df l.prog w K mg base CX0 _ "_law_stocks_of" _ _:=⟨⟨y45,_,PySem.W.mg_of X G y295,y103,y487,y571⟩⟩
 have y573:FnOk l.prog w K mg base CX0 _ y46 _ _ _:=(qf8 y417 B y373)
 have y448:Df l.prog w K mg base CX0 _ "_law_steps_of" _ _:=⟨⟨y46,_,PySem.W.mg_of X G y298,y104,y488,y573⟩⟩
 have y574:FnOk l.prog w K mg base CX0 _ y47 _ _ _:=(qii y418 B y447 y373 y448)
 have y575:Df l.prog w K mg base CX0 _ "_law_deed_of" _ _:=⟨⟨y47,_,PySem.W.mg_of X G y301,y105,y489,y574⟩⟩
 have y576:FnOk l.prog w K mg base CX0 _ y48 _ _ _:=(qfu y419 B y446 y447 y448 y575)
 have y577:Df l.prog w K mg base CX0 _ "_law_drawn" _ _:=⟨⟨y48,_,PySem.W.mg_of X G y304,y106,y490,y576⟩⟩
 have y578:FnOk l.prog w K mg base CX0 _ y49 _ _ _:=(qht y420 B)
 have y579:Df l.prog w K mg base CX0 _ "_law_copy" _ _:=⟨⟨y49,_,PySem.W.mg_of X G y307,y107,y491,y578⟩⟩
 have y580:FnOk l.prog w K mg base CX0 _ y50 _ _ _:=(qco y421 B)
 have y449:Df l.prog w K mg base CX0 _ "_law_copied" _ _:=⟨⟨y50,_,PySem.W.mg_of X G y310,y108,y492,y580⟩⟩
 have y581:FnOk l.prog w K mg base CX0 _ y51 _ _ _:=(qg2 y422 B)
 have y374:Df l.prog w K mg base CX0 _ "_law_whole" _ _:=⟨⟨y51,_,PySem.W.mg_of X G y313,y109,y493,y581⟩⟩
 have y582:FnOk l.prog w K mg base CX0 _ y52 _ _ _:=(qic y423 B y374)
 have y450:Df l.prog w K mg base CX0 _ "_law_is_entry" _ _:=⟨⟨y52,_,PySem.W.mg_of X G y316,y110,y494,y582⟩⟩
 have y583:FnOk l.prog w K mg base CX0 _ y53 _ _ _:=(qfh y424 B y450)
 have y584:Df l.prog w K mg base CX0 _ "_law_are_trails" _ _:=⟨⟨y53,_,PySem.W.mg_of X G y319,y111,y495,y583⟩⟩
 have y585:FnOk l.prog w K mg base CX0 _ y54 _ _ _:=(qfv y425 B y374)
 have y586:Df l.prog w K mg base CX0 _ "_law_are_things" _ _:=⟨⟨y54,_,PySem.W.mg_of X G y322,y112,y496,y585⟩⟩
 have y587:FnOk l.prog w K mg base CX0 _ y55 _ _ _:=(qix y426 B y374)
 have y588:Df l.prog w K mg base CX0 _ "_law_are_keys" _ _:=⟨⟨y55,_,PySem.W.mg_of X G y325,y113,y497,y587⟩⟩
 have y589:FnOk l.prog w K mg base CX0 _ y56 _ _ _:=(qjv y427 B)
 have y590:Df l.prog w K mg base CX0 _ "_law_next" _ _:=⟨⟨y56,_,PySem.W.mg_of X G y328,y114,y498,y589⟩⟩
 have y591:FnOk l.prog w K mg base CX0 _ y57 _ _ _:=(qi7 y428 B y449)
 have y592:Df l.prog w K mg base CX0 _ "_law_new" _ _:=⟨⟨y57,_,PySem.W.mg_of X G y331,y115,y499,y591⟩⟩
 have y593:FnOk l.prog w K mg base CX0 _ y58 _ _ _:=(qg9 y429 B)
 have y594:Df l.prog w K mg base CX0 _ "_law_key_at" _ _:=⟨⟨y58,_,PySem.W.mg_of X G y334,y116,y500,y593⟩⟩
 have y595:FnOk l.prog w K mg base CX0 _ y59 _ _ _:=(qe8 y430 B y594)
 have y451:Df l.prog w K mg base CX0 _ "_law_at_desk" _ _:=⟨⟨y59,_,PySem.W.mg_of X G y337,y117,y501,y595⟩⟩
 have y596:FnOk l.prog w K mg base CX0 _ y60 _ _ _:=(qj8 y431 B y590 y451)
 have y597:Df l.prog w K mg base CX0 _ "_law_gone" _ _:=⟨⟨y60,_,PySem.W.mg_of X G y340,y118,y502,y596⟩⟩
 have y598:FnOk l.prog w K mg base CX0 _ y61 _ _ _:=(qkw y432 B y451 y597)
 have y599:Df l.prog w K mg base CX0 _ "_law_due_answer" _ _:=⟨⟨y61,_,PySem.W.mg_of X G y343,y119,y503,y598⟩⟩
 have y600:FnOk l.prog w K mg base CX0 _ y62 _ _ _:=(qeu y433 B y450)
 have y601:Df l.prog w K mg base CX0 _ "_law_alike" _ _:=⟨⟨y62,_,PySem.W.mg_of X G y346,y120,y504,y600⟩⟩
 exact(qki y434 B ⟨y446,y572,y577,y449,y579,y554,y592,y601,y599,y563,y557,y559,y586,y588,y584,y565,y567⟩)
theorem walk {l:PySem.W.OpenLaw} {q:Program} {loose:List Str} {XP:(Str→Option Value)→Heap→Prop} {YP:World→Heap→Prop} {d:DefRec} {K:Params→PySem.W.Frag} (hn:l.most=some 63) (hdf:d.params.defaults=[])
  (hY:∀ (w:World) (h:Heap),YP w h→(K w.params).In h)
  (F:∀ (w:World) (mg:Str→Option Value) (fa:Addr) (h:Heap),(K w.params).In h→h.Ns mainGlobals mg→mg d.name=some (.ref fa) →
   ∃ fd:FuncData,(∀ (s:Shared) (u:Value),BindsTo s fd ⟨[u],[]⟩ [("_law_script",u)])∧∀ base:Heap,(K w.params).In base→base.Ns mainGlobals mg→FnOk l.prog w (K w.params) mg base CX0 13 fa fd ["_law_script"] (qfn (K w.params))) :
  PySem.W.WalkO q loose XP YP l.row.toRowW d [] (fun f vs=>PySem.call f vs) :=
 L2.walk_of (n:=63) (k:=13) (x:= "_law_script") (CX:=fun _=>CX0) (sp:=fun w=>qfn (K w.params)) hn (by decide) hdf ⟨rfl,by decide,by decide⟩ hY F (fun _ _ a ns hl hO hS=>⟨a,ns,rfl,Scr.of hO hS,hl,fun _=>rfl⟩) (fun _ _ _ _ _ z=>z)
end K07
open PySem PySem.W PyProof.Rows
namespace PySem.W.Fast
theorem tw10031830392721665040:True:=⟨⟩
theorem tw10043694383704915904:True:=⟨⟩
theorem tw10053288723638953106:True:=⟨⟩
theorem tw10062426761318799935:True:=⟨⟩
theorem tw10132496586651501673:True:=⟨⟩
theorem tw10133466704715474188:True:=⟨⟩
theorem tw10169199388485694707:True:=⟨⟩
theorem tw10196925239558298245:True:=⟨⟩
theorem tw10205562307463251916:True:=⟨⟩
theorem tw10258432971760895853:True:=⟨⟩
theorem tw10270845895923846773:True:=⟨⟩
theorem tw1027103957942154994:True:=⟨⟩
theorem tw10325997656517401471:True:=⟨⟩
theorem tw1038168228424731260:True:=⟨⟩
theorem tw10389753511652754861:True:=⟨⟩
theorem tw10442545112972362375:True:=⟨⟩
theorem tw10494421081166843293:True:=⟨⟩
theorem tw10514575821428725745:True:=⟨⟩
theorem tw1051859467081419232:True:=⟨⟩
theorem tw10521572754051059398:True:=⟨⟩
theorem tw10555708011563360307:True:=⟨⟩
theorem tw10567527942439497798:True:=⟨⟩
theorem tw10570248545179578222:True:=⟨⟩
theorem tw10709202853784887428:True:=⟨⟩
theorem tw10719344717746325868:True:=⟨⟩
theorem tw10733227851065591688:True:=⟨⟩
theorem tw10748298781169082966:True:=⟨⟩
theorem tw10771616143474091443:True:=⟨⟩
theorem tw1078814954040059673:True:=⟨⟩
theorem tw10795944232627485584:True:=⟨⟩
theorem tw10840891441964160011:True:=⟨⟩
theorem tw10844283208818289143:True:=⟨⟩
theorem tw10865511454765742772:True:=⟨⟩
theorem tw10878664977127618522:True:=⟨⟩
theorem tw10921566306304100900:True:=⟨⟩
theorem tw10955257381212401103:True:=⟨⟩
theorem tw10971236233493440519:True:=⟨⟩
theorem tw11126902869515127551:True:=⟨⟩
theorem tw11146360072888747934:True:=⟨⟩
theorem tw11219971369221492306:True:=⟨⟩
theorem tw11259709938042409711:True:=⟨⟩
theorem tw11262440735888774309:True:=⟨⟩
theorem tw11281548195547149332:True:=⟨⟩
theorem tw11385245375161103957:True:=⟨⟩
theorem tw11405585174598664243:True:=⟨⟩
theorem tw11406212817327544545:True:=⟨⟩
theorem tw11419926378605228111:True:=⟨⟩
theorem tw11481764511512033147:True:=⟨⟩
theorem tw11518032566364195076:True:=⟨⟩
theorem tw1153710237051527246:True:=⟨⟩
theorem tw11543070968948867527:True:=⟨⟩
theorem tw11607042495274726443:True:=⟨⟩
theorem tw11622740765837116026:True:=⟨⟩
theorem tw11668495508634376098:True:=⟨⟩
theorem tw11740948394056944235:True:=⟨⟩
theorem tw11833442783805030610:True:=⟨⟩
theorem tw11927662222461259438:True:=⟨⟩
theorem tw12027187378018956185:True:=⟨⟩
theorem tw12043729699497911239:True:=⟨⟩
theorem tw12090597226764745972:True:=⟨⟩
theorem tw1214044981230963465:True:=⟨⟩
theorem tw12203651424833064402:True:=⟨⟩
theorem tw12232320850121816663:True:=⟨⟩
theorem tw12239589859147984570:True:=⟨⟩
theorem tw12246239942472838592:True:=⟨⟩
theorem tw12252031885674791356:True:=⟨⟩
theorem tw1225366691197774939:True:=⟨⟩
theorem tw12292798029991565659:True:=⟨⟩
theorem tw1234630704632140779:True:=⟨⟩
theorem tw12359661660133231470:True:=⟨⟩
theorem tw12373216276325969608:True:=⟨⟩
theorem tw12443445254954259282:True:=⟨⟩
theorem tw12477633594261252083:True:=⟨⟩
theorem tw12493817652027471177:True:=⟨⟩
theorem tw12518062699270135228:True:=⟨⟩
theorem tw1252425413670019279:True:=⟨⟩
theorem tw12531367971649897282:True:=⟨⟩
theorem tw12538292568708552208:True:=⟨⟩
theorem tw12542508353111052437:True:=⟨⟩
theorem tw12551550550219311649:True:=⟨⟩
theorem tw12641204194291086176:True:=⟨⟩
theorem tw12641316536226892421:True:=⟨⟩
theorem tw12657895031969903412:True:=⟨⟩
theorem tw12692618374431931849:True:=⟨⟩
theorem tw12693655925327712495:True:=⟨⟩
theorem tw12734474679436792401:True:=⟨⟩
theorem tw12755538205455867440:True:=⟨⟩
theorem tw12779017793505948089:True:=⟨⟩
theorem tw12809375838368385118:True:=⟨⟩
theorem tw12809685995249327622:True:=⟨⟩
theorem tw12885145715687299056:True:=⟨⟩
theorem tw1295346293535628895:True:=⟨⟩
theorem tw12972716060688381576:True:=⟨⟩
theorem tw13030412473576749182:True:=⟨⟩
theorem tw13069387890125800044:True:=⟨⟩
theorem tw13079832322108792170:True:=⟨⟩
theorem tw131049810694539447:True:=⟨⟩
theorem tw13115294040495456177:True:=⟨⟩
theorem tw13133064317662655994:True:=⟨⟩
theorem tw13149746885111486808:True:=⟨⟩
theorem tw13238147335840322329:True:=⟨⟩
theorem tw13313929239929934366:True:=⟨⟩
theorem tw13387827765157319869:True:=⟨⟩
theorem tw13443196628796901676:True:=⟨⟩
theorem tw13473879790960935145:True:=⟨⟩
theorem tw13510401823552077685:True:=⟨⟩
theorem tw13514545993889145721:True:=⟨⟩
theorem tw13519935722513908315:True:=⟨⟩
theorem tw13548442377285449770:True:=⟨⟩
theorem tw13576886458042080545:True:=⟨⟩
theorem tw13604203691651963441:True:=⟨⟩
theorem tw13617965110639979716:True:=⟨⟩
theorem tw13621040937795226420:True:=⟨⟩
theorem tw13639651095447697197:True:=⟨⟩
theorem tw13681531976160481471:True:=⟨⟩
theorem tw13686800444561189261:True:=⟨⟩
theorem tw13687178324946388507:True:=⟨⟩
theorem tw13730699051663947784:True:=⟨⟩
theorem tw13786776944206458295:True:=⟨⟩
theorem tw1386154688840333313:True:=⟨⟩
theorem tw13874708767335455769:True:=⟨⟩
theorem tw13956831815434264945:True:=⟨⟩
theorem tw13972600963777553316:True:=⟨⟩
theorem tw13994778494106984336:True:=⟨⟩
theorem tw14065684712111938836:True:=⟨⟩
theorem tw14089483411896359627:True:=⟨⟩
theorem tw14091671692092412679:True:=⟨⟩
theorem tw14135780500032146377:True:=⟨⟩
theorem tw14173714128820518143:True:=⟨⟩
theorem tw14200924482102525177:True:=⟨⟩
theorem tw14214327965673235883:True:=⟨⟩
theorem tw14257741328829149182:True:=⟨⟩
theorem tw14264268363825549847:True:=⟨⟩
theorem tw14307148535350665314:True:=⟨⟩
theorem tw14371009975610528742:True:=⟨⟩
theorem tw14376735771939323165:True:=⟨⟩
theorem tw1437766810353951497:True:=⟨⟩
theorem tw14401168220241370961:True:=⟨⟩
theorem tw14416912139539506763:True:=⟨⟩
theorem tw14419320957851318655:True:=⟨⟩
theorem tw14422322434155149105:True:=⟨⟩
theorem tw14457848023733650060:True:=⟨⟩
theorem tw14511885406420950514:True:=⟨⟩
theorem tw14528413321776902828:True:=⟨⟩
theorem tw14566773618482631752:True:=⟨⟩
theorem tw14567266740483065743:True:=⟨⟩
theorem tw14581155891444343558:True:=⟨⟩
theorem tw14592374388302254164:True:=⟨⟩
theorem tw14640529140994916503:True:=⟨⟩
theorem tw14680144358452540499:True:=⟨⟩
theorem tw1470862788826615829:True:=⟨⟩
theorem tw1471018669159913521:True:=⟨⟩
theorem tw1471046379950106932:True:=⟨⟩
theorem tw14741675081088997936:True:=⟨⟩
theorem tw14769332072136821184:True:=⟨⟩
theorem tw14770223512374261284:True:=⟨⟩
theorem tw14989641918524876561:True:=⟨⟩
theorem tw15013952759489650104:True:=⟨⟩
theorem tw15024217330089203504:True:=⟨⟩
theorem tw15041742364890160215:True:=⟨⟩
theorem tw15059392255931441769:True:=⟨⟩
theorem tw15061820110375872168:True:=⟨⟩
theorem tw15080169874088375263:True:=⟨⟩
theorem tw15089027030808680585:True:=⟨⟩
theorem tw15119750405095068248:True:=⟨⟩
theorem tw15135879111122409669:True:=⟨⟩
theorem tw15140439544654524470:True:=⟨⟩
theorem tw15170676752382692967:True:=⟨⟩
theorem tw1517423799239401510:True:=⟨⟩
theorem tw1517952540997969193:True:=⟨⟩
theorem tw15227543749027555432:True:=⟨⟩
theorem tw1523520892167059326:True:=⟨⟩
theorem tw15269991959418430134:True:=⟨⟩
theorem tw15302073863926378927:True:=⟨⟩
theorem tw15320637741501895287:True:=⟨⟩
theorem tw15323332207375797220:True:=⟨⟩
theorem tw15331911670558372857:True:=⟨⟩
theorem tw15361218288163388068:True:=⟨⟩
theorem tw15380993636111506406:True:=⟨⟩
theorem tw15390166253624549810:True:=⟨⟩
theorem tw15433683461208489196:True:=⟨⟩
theorem tw15528731570535515197:True:=⟨⟩
theorem tw15537887894056310737:True:=⟨⟩
theorem tw15544830875784593999:True:=⟨⟩
theorem tw15551075117611659296:True:=⟨⟩
theorem tw15668006784041285109:True:=⟨⟩
theorem tw15681422901871354000:True:=⟨⟩
theorem tw15690969403120688530:True:=⟨⟩
theorem tw15712631167724758005:True:=⟨⟩
theorem tw15714718944546645599:True:=⟨⟩
theorem tw15735077779028861137:True:=⟨⟩
theorem tw15736304254290362497:True:=⟨⟩
theorem tw15755452629690962423:True:=⟨⟩
theorem tw15769481104356040636:True:=⟨⟩
theorem tw15798635638676204244:True:=⟨⟩
theorem tw15809130387414116207:True:=⟨⟩
theorem tw15818344234952177841:True:=⟨⟩
theorem tw15861958054527301820:True:=⟨⟩
theorem tw15871668559872703626:True:=⟨⟩
theorem tw15908857670417085658:True:=⟨⟩
theorem tw15912560984326115953:True:=⟨⟩
theorem tw15952412449563883691:True:=⟨⟩
theorem tw1597818523960107807:True:=⟨⟩
theorem tw15987366184170583038:True:=⟨⟩
theorem tw16008946782158616963:True:=⟨⟩
theorem tw16032063520802775047:True:=⟨⟩
theorem tw16047387680932902767:True:=⟨⟩
theorem tw16157227444096007957:True:=⟨⟩
theorem tw16188064903545121396:True:=⟨⟩
theorem tw16234239480896486659:True:=⟨⟩
theorem tw16366968286115301100:True:=⟨⟩
theorem tw16386097686447289047:True:=⟨⟩
theorem tw16479421191953680561:True:=⟨⟩
theorem tw16486281014277768488:True:=⟨⟩
theorem tw16498818924675454280:True:=⟨⟩
theorem tw16517685040379049995:True:=⟨⟩
theorem tw16524619026250019043:True:=⟨⟩
theorem tw16608220241816765399:True:=⟨⟩
theorem tw16618269261630115393:True:=⟨⟩
theorem tw16659246244296097846:True:=⟨⟩
theorem tw16702930682917048418:True:=⟨⟩
theorem tw16732536411436011766:True:=⟨⟩
theorem tw16747684340534824049:True:=⟨⟩
theorem tw16865228408146052951:True:=⟨⟩
theorem tw16919172510036362737:True:=⟨⟩
theorem tw16985373090320849222:True:=⟨⟩
theorem tw17012522299724855052:True:=⟨⟩
theorem tw17053088091164712349:True:=⟨⟩
theorem tw17132206274734186131:True:=⟨⟩
theorem tw17188481880154728898:True:=⟨⟩
theorem tw17233797884039405407:True:=⟨⟩
theorem tw17295235346739301491:True:=⟨⟩
theorem tw17354208705114779751:True:=⟨⟩
theorem tw17368850661110540278:True:=⟨⟩
theorem tw17396071606959144279:True:=⟨⟩
theorem tw17406729614086898700:True:=⟨⟩
theorem tw17486057799542660463:True:=⟨⟩
theorem tw17571990518609262330:True:=⟨⟩
theorem tw17597515560390296832:True:=⟨⟩
theorem tw17656397775511234018:True:=⟨⟩
theorem tw17681197528894542593:True:=⟨⟩
theorem tw177256610811725482:True:=⟨⟩
theorem tw17744665909215946892:True:=⟨⟩
theorem tw17749194468695019345:True:=⟨⟩
theorem tw17826899304763636559:True:=⟨⟩
theorem tw17872063309715641089:True:=⟨⟩
theorem tw17889821208811353707:True:=⟨⟩
theorem tw17925114189879411456:True:=⟨⟩
theorem tw17974321558716826917:True:=⟨⟩
theorem tw17977775015765086449:True:=⟨⟩
theorem tw17993936584298779612:True:=⟨⟩
theorem tw17995615732682151105:True:=⟨⟩
theorem tw18101100890491903055:True:=⟨⟩
theorem tw18141975827000772063:True:=⟨⟩
theorem tw18232218168745306895:True:=⟨⟩
theorem tw18260096747019320822:True:=⟨⟩
theorem tw18267588783326952460:True:=⟨⟩
theorem tw18306328514946634666:True:=⟨⟩
theorem tw18334779472427155437:True:=⟨⟩
theorem tw18347196220969810667:True:=⟨⟩
theorem tw18350476258911199881:True:=⟨⟩
theorem tw18378128046163349887:True:=⟨⟩
theorem tw18418656523907041838:True:=⟨⟩
theorem tw1869213539244743312:True:=⟨⟩
theorem tw188759880292849139:True:=⟨⟩
theorem tw1913376862868268535:True:=⟨⟩
theorem tw1918734002666906094:True:=⟨⟩
theorem tw197446686279307361:True:=⟨⟩
theorem tw2013550592657182140:True:=⟨⟩
theorem tw2152711135946032087:True:=⟨⟩
theorem tw2180435011226091831:True:=⟨⟩
theorem tw2236609760280427034:True:=⟨⟩
theorem tw2255937468901424766:True:=⟨⟩
theorem tw2259171702212766754:True:=⟨⟩
theorem tw2266582392770124262:True:=⟨⟩
theorem tw2291584720143927343:True:=⟨⟩
theorem tw230988234803982933:True:=⟨⟩
theorem tw2330240996716117138:True:=⟨⟩
theorem tw2397235517099472856:True:=⟨⟩
theorem tw2484036085130485739:True:=⟨⟩
theorem tw2485724434317009387:True:=⟨⟩
theorem tw2498916708913241692:True:=⟨⟩
theorem tw2523550788357447321:True:=⟨⟩
theorem tw2601295131382076726:True:=⟨⟩
theorem tw2673772623622671689:True:=⟨⟩
theorem tw2775717273432673456:True:=⟨⟩
theorem tw2831853928033683459:True:=⟨⟩
theorem tw2887998733028039016:True:=⟨⟩
theorem tw288991752350829634:True:=⟨⟩
theorem tw2920450269843111557:True:=⟨⟩
theorem tw2950736656687682710:True:=⟨⟩
theorem tw2959404100941206153:True:=⟨⟩
theorem tw304505103740337365:True:=⟨⟩
theorem tw3054123921389963689:True:=⟨⟩
theorem tw3079146565015542025:True:=⟨⟩
theorem tw3094826810449360687:True:=⟨⟩
theorem tw3128929875625571560:True:=⟨⟩
theorem tw3318199062310335194:True:=⟨⟩
theorem tw3439419027905835140:True:=⟨⟩
theorem tw3449801721745964426:True:=⟨⟩
theorem tw3492071887768486914:True:=⟨⟩
theorem tw3522236546048326008:True:=⟨⟩
theorem tw3536224488856569948:True:=⟨⟩
theorem tw3648774714701574910:True:=⟨⟩
theorem tw3658465932546339555:True:=⟨⟩
theorem tw368318702789354447:True:=⟨⟩
theorem tw3795550938179353037:True:=⟨⟩
theorem tw3797660540900481250:True:=⟨⟩
theorem tw3815823915685556040:True:=⟨⟩
theorem tw3826429154160044530:True:=⟨⟩
theorem tw3839792160245600766:True:=⟨⟩
theorem tw3857381056757889358:True:=⟨⟩
theorem tw385780057984072149:True:=⟨⟩
theorem tw3889906862174016311:True:=⟨⟩
theorem tw3909742074246458756:True:=⟨⟩
theorem tw3989503845832051484:True:=⟨⟩
theorem tw4005536594561592996:True:=⟨⟩
theorem tw4029902597432171257:True:=⟨⟩
theorem tw4049230510683200078:True:=⟨⟩
theorem tw4055787138454573518:True:=⟨⟩
theorem tw4127399934614980546:True:=⟨⟩
theorem tw4144680507988404736:True:=⟨⟩
theorem tw4163105648404427332:True:=⟨⟩
theorem tw4189187294464520363:True:=⟨⟩
theorem tw4189449669274282857:True:=⟨⟩
theorem tw4200131882168941364:True:=⟨⟩
theorem tw4203383747248647162:True:=⟨⟩
theorem tw4223327662922261553:True:=⟨⟩
theorem tw4252125410143934733:True:=⟨⟩
theorem tw4262928056877897548:True:=⟨⟩
theorem tw428249365163578807:True:=⟨⟩
theorem tw4286070586392804476:True:=⟨⟩
theorem tw4303586205403810183:True:=⟨⟩
theorem tw4332667137170753666:True:=⟨⟩
theorem tw4377292946059536608:True:=⟨⟩
theorem tw4425397806998331716:True:=⟨⟩
theorem tw4544465973554680402:True:=⟨⟩
theorem tw4589412513093837044:True:=⟨⟩
theorem tw4611758866996230123:True:=⟨⟩
theorem tw4644669172417504690:True:=⟨⟩
theorem tw4660913003574420700:True:=⟨⟩
theorem tw4715747662394978568:True:=⟨⟩
theorem tw472688009672816740:True:=⟨⟩
theorem tw4727740572131012419:True:=⟨⟩
theorem tw4736274783208832310:True:=⟨⟩
theorem tw4779600122417037277:True:=⟨⟩
theorem tw4841112635202180689:True:=⟨⟩
theorem tw4851365731947611615:True:=⟨⟩
theorem tw4871353458431690944:True:=⟨⟩
theorem tw4872621891190127517:True:=⟨⟩
theorem tw4924291566304493890:True:=⟨⟩
theorem tw4941403818992614036:True:=⟨⟩
theorem tw4984373027775548856:True:=⟨⟩
theorem tw5006831221781869834:True:=⟨⟩
theorem tw50693695506036633:True:=⟨⟩
theorem tw5089336225882556918:True:=⟨⟩
theorem tw5115019943022673550:True:=⟨⟩
theorem tw5172677307697274411:True:=⟨⟩
theorem tw5212284330656910807:True:=⟨⟩
theorem tw5269811936319745547:True:=⟨⟩
theorem tw5297864902421697027:True:=⟨⟩
theorem tw5335412025441978180:True:=⟨⟩
theorem tw535406693657186150:True:=⟨⟩
theorem tw5387110553308953085:True:=⟨⟩
theorem tw5394718720206405311:True:=⟨⟩
theorem tw539886486052621805:True:=⟨⟩
theorem tw554680809359689822:True:=⟨⟩
theorem tw5551324773080781377:True:=⟨⟩
theorem tw5575290912486943352:True:=⟨⟩
theorem tw559011063812779092:True:=⟨⟩
theorem tw5669121928032474159:True:=⟨⟩
theorem tw5703061996614792135:True:=⟨⟩
theorem tw5714598170237151170:True:=⟨⟩
theorem tw5756879165668948374:True:=⟨⟩
theorem tw5776928569273365440:True:=⟨⟩
theorem tw5862244699660049710:True:=⟨⟩
theorem tw5865533778376763138:True:=⟨⟩
theorem tw5906356491576241379:True:=⟨⟩
theorem tw5957558161359242767:True:=⟨⟩
theorem tw5969083750627096485:True:=⟨⟩
theorem tw6000581923583638734:True:=⟨⟩
theorem tw6121298586310609068:True:=⟨⟩
theorem tw6202450798222481165:True:=⟨⟩
theorem tw6206458679767178869:True:=⟨⟩
theorem tw6236203554451606216:True:=⟨⟩
theorem tw6249630345342416770:True:=⟨⟩
theorem tw6284788264206386517:True:=⟨⟩
theorem tw6298832322497505438:True:=⟨⟩
theorem tw6346536999397349062:True:=⟨⟩
theorem tw6368231038324643925:True:=⟨⟩
theorem tw63715938761072269:True:=⟨⟩
theorem tw6391764746490413261:True:=⟨⟩
theorem tw6399744129197875848:True:=⟨⟩
theorem tw6419843302242336872:True:=⟨⟩
theorem tw6446103691320008957:True:=⟨⟩
theorem tw6447119899741638600:True:=⟨⟩
theorem tw6450426502468672883:True:=⟨⟩
theorem tw6463475262539319474:True:=⟨⟩
theorem tw6497489252152009338:True:=⟨⟩
theorem tw6543921160608684982:True:=⟨⟩
theorem tw6612621415376163199:True:=⟨⟩
theorem tw6640590234720049664:True:=⟨⟩
theorem tw6645798102120784466:True:=⟨⟩
theorem tw6657227473877206529:True:=⟨⟩
theorem tw6704388250377278485:True:=⟨⟩
theorem tw6725024992177415879:True:=⟨⟩
theorem tw6748938241091725727:True:=⟨⟩
theorem tw6807730523011884051:True:=⟨⟩
theorem tw6829166905385702850:True:=⟨⟩
theorem tw6836802515953707056:True:=⟨⟩
theorem tw6865357522577962662:True:=⟨⟩
theorem tw6895088097169272192:True:=⟨⟩
theorem tw6919181606013996166:True:=⟨⟩
theorem tw6951476668512949814:True:=⟨⟩
theorem tw7052199524426999191:True:=⟨⟩
theorem tw7054609580727762139:True:=⟨⟩
theorem tw7160422524256024280:True:=⟨⟩
theorem tw7215976792491050807:True:=⟨⟩
theorem tw7233507960674189422:True:=⟨⟩
theorem tw7237514018853933870:True:=⟨⟩
theorem tw7261471700682383510:True:=⟨⟩
theorem tw726170177104407446:True:=⟨⟩
theorem tw7271727638943101783:True:=⟨⟩
theorem tw7347931771345171461:True:=⟨⟩
theorem tw7384953741019333712:True:=⟨⟩
theorem tw7441919141151034908:True:=⟨⟩
theorem tw7445344227831578178:True:=⟨⟩
theorem tw7447095087815684555:True:=⟨⟩
theorem tw7472116219536048000:True:=⟨⟩
theorem tw7518209203705201025:True:=⟨⟩
theorem tw7526322031053512291:True:=⟨⟩
theorem tw7557236184467152675:True:=⟨⟩
theorem tw7637878453331510736:True:=⟨⟩
theorem tw7707821282171309908:True:=⟨⟩
theorem tw7753947932745303659:True:=⟨⟩
theorem tw7774052451063286519:True:=⟨⟩
theorem tw7813173954396310175:True:=⟨⟩
theorem tw7824098024493199319:True:=⟨⟩
theorem tw7825548907917756611:True:=⟨⟩
theorem tw7890751701473443915:True:=⟨⟩
theorem tw7895756233710118022:True:=⟨⟩
theorem tw791123586434954284:True:=⟨⟩
theorem tw7922481067204500646:True:=⟨⟩
theorem tw7988246861462030862:True:=⟨⟩
theorem tw7989456185465239330:True:=⟨⟩
theorem tw7999426303216863285:True:=⟨⟩
theorem tw8037704873032366658:True:=⟨⟩
theorem tw8091940656232078358:True:=⟨⟩
theorem tw8164420214704614198:True:=⟨⟩
theorem tw8186784036006107392:True:=⟨⟩
theorem tw8321539390704311848:True:=⟨⟩
theorem tw8366438423557545195:True:=⟨⟩
theorem tw8387428983030782450:True:=⟨⟩
theorem tw8421120580095816113:True:=⟨⟩
theorem tw8421772581435690206:True:=⟨⟩
theorem tw8469396756046972365:True:=⟨⟩
theorem tw8530919311173908088:True:=⟨⟩
theorem tw8541554209201539154:True:=⟨⟩
theorem tw8568365219419121393:True:=⟨⟩
theorem tw8573381536268106866:True:=⟨⟩
theorem tw8576414729189222873:True:=⟨⟩
theorem tw8636443689141168311:True:=⟨⟩
theorem tw8644313951280809495:True:=⟨⟩
theorem tw8686329074131075198:True:=⟨⟩
theorem tw8698037398770515167:True:=⟨⟩
theorem tw8766095793030157415:True:=⟨⟩
theorem tw8771838185944109026:True:=⟨⟩
theorem tw878603394686018673:True:=⟨⟩
theorem tw8791335923080179657:True:=⟨⟩
theorem tw8859731366969235182:True:=⟨⟩
theorem tw8948031419488896122:True:=⟨⟩
theorem tw9022280378018387047:True:=⟨⟩
theorem tw902754014187605958:True:=⟨⟩
theorem tw9031520502866391626:True:=⟨⟩
theorem tw905100970511205173:True:=⟨⟩
theorem tw905677559385353121:True:=⟨⟩
theorem tw9057433497552673382:True:=⟨⟩
theorem tw9074979194650244706:True:=⟨⟩
theorem tw9098414388804678337:True:=⟨⟩
theorem tw9101467496323790474:True:=⟨⟩
theorem tw9208576978718399783:True:=⟨⟩
theorem tw9230586049902148732:True:=⟨⟩
theorem tw9281429417719059042:True:=⟨⟩
theorem tw9335785018896380234:True:=⟨⟩
theorem tw935879834543020542:True:=⟨⟩
theorem tw9425977457481732357:True:=⟨⟩
theorem tw9561752462653577214:True:=⟨⟩
theorem tw9731395602962948424:True:=⟨⟩
theorem tw9737784060373069330:True:=⟨⟩
theorem tw9749266989365030881:True:=⟨⟩
theorem tw9762480611106243675:True:=⟨⟩
theorem tw9762624902844695019:True:=⟨⟩
theorem tw9828566776443308837:True:=⟨⟩
theorem tw9870421325678506469:True:=⟨⟩
theorem tw9909806160375699619:True:=⟨⟩
theorem tw9922795785761559646:True:=⟨⟩
end PySem.W.Fast
set_option maxRecDepth 100000 in
set_option maxHeartbeats 0 in
theorem PySem.Challenge.cw_trailbook_k07_plain_yard_holds : PySem.Challenge.rw_trailbook_k07_plain_yard.Holds := by
 w_on;o_law;k_head;(case hw=>w_witness2)
 k_fill
 refine K07.walk (l:=PySem.Challenge.rw_trailbook_k07_plain_yard) rfl rfl (fun w h Y=>PySem.W.kIn_of Y) ?F
 case F =>
  intro w mg fa h KX G hmg
  refine' K07.all_mk KX G hmg ?y123 ?y124 ?x_hn ?x_tk ?y125 ?y126 ?y127 ?y128 ?y129 ?y130 ?y131 ?y132 ?y133 ?y134 ?y135 ?y136 ?y137 ?y138 ?m_D ?m_WD ?m_W ?y139 ?y140 ?y141 ?y142 ?y143 ?y144 ?y145 ?y146 ?y147 ?y148 ?y149 ?y150 ?y151 ?y152 ?y153 ?y154 ?y155 ?y156 ?y157 ?y158 ?y159 ?y160 ?y161 ?y162 ?y163 ?y164 ?y66 ?y165 ?y166 ?y167 ?y67 ?y168 ?y169 ?y170 ?y68 ?y171 ?y172 ?y173 ?y69 ?y174 ?y175 ?y176 ?y177 ?y178 ?y179 ?y180 ?y181 ?y182 ?y70 ?y183 ?y184 ?y185 ?y186 ?y71 ?y187 ?y188 ?y189 ?y190 ?y72 ?y191 ?y192 ?y193 ?y194 ?y73 ?y195 ?y196 ?y197 ?y198 ?y74 ?y199 ?y200 ?y201 ?y202 ?y75 ?y203 ?y204 ?y205 ?y206 ?y207 ?y76 ?y77 ?y208 ?y209 ?y63 ?y210 ?y211 ?y212 ?y213 ?y78 ?y214 ?y215 ?y216 ?y217 ?y79 ?y218 ?y219 ?y220 ?y221 ?y80 ?y222 ?y223 ?y224 ?y225 ?y81 ?y226 ?y227 ?y228 ?y229 ?y82 ?y230 ?y231 ?y232 ?y233 ?y83 ?y234 ?y235 ?y236 ?y237 ?y84 ?y238 ?y239 ?y240 ?y241 ?y85 ?y242 ?y243 ?y244 ?y245 ?y86 ?y246 ?y247 ?y248 ?y249 ?y87 ?y250 ?y251 ?y252 ?y253 ?y88 ?y254 ?y255 ?y256 ?y257 ?y89 ?y258 ?y259 ?y260 ?y90 ?y91 ?y261 ?y262 ?y64 ?y263 ?y264 ?y265 ?y92 ?y266 ?y267 ?y268 ?y93 ?y269 ?y270 ?y271 ?y94 ?y272 ?y273 ?y274 ?y95 ?y275 ?y276 ?y277 ?y96 ?y278 ?y279 ?y280 ?y97 ?y281 ?y282 ?y283 ?y98 ?y99 ?y284 ?y285 ?y65 ?y286 ?y287 ?y288 ?y100 ?y289 ?y290 ?y291 ?y101 ?y292 ?y293 ?y294 ?y102 ?y295 ?y296 ?y297 ?y103 ?y298 ?y299 ?y300 ?y104 ?y301 ?y302 ?y303 ?y105 ?y304 ?y305 ?y306 ?y106 ?y307 ?y308 ?y309 ?y107 ?y310 ?y311 ?y312 ?y108 ?y313 ?y314 ?y315 ?y109 ?y316 ?y317 ?y318 ?y110 ?y319 ?y320 ?y321 ?y111 ?y322 ?y323 ?y324 ?y112 ?y325 ?y326 ?y327 ?y113 ?y328 ?y329 ?y330 ?y114 ?y331 ?y332 ?y333 ?y115 ?y334 ?y335 ?y336 ?y116 ?y337 ?y338 ?y339 ?y117 ?y340 ?y341 ?y342 ?y118 ?y343 ?y344 ?y345 ?y119 ?y346 ?y347 ?y348 ?y120 ?y349 ?y350 ?y351 ?y352 ?y353 ?y354 ?y355 ?y356 ?y357 ?y358 ?y359 ?y360 ?y361 ?y362 ?y363 ?y364 ?y365 ?y366 ?y367 ?y368 ?y369 ?y370 ?y371 ?y372
  (case y123=>k_is)
  (case y124=>k_is)
  (case x_hn=>k_is)
  (case x_tk=>k_is)
  (case y125=>k_is)
  (case y126=>k_is)
  (case y127=>k_is)
  (case y128=>k_is)
  (case y129=>k_is)
  (case y130=>k_is)
  (case y131=>kernel_rfl)
  (case y132=>k_is)
  (case y133=>k_is)
  (case y134=>k_is)
  (case y135=>k_is)
  (case y136=>k_is)
  (case y137=>k_is)
  (case y138=>kernel_rfl)
  (case m_D=>k_is)
  (case m_WD=>k_is)
  (case m_W=>k_is)
  (case y139=>k_is)
  (case y140=>k_is)
  (case y141=>k_is)
  (case y142=>k_is)
  (case y143=>k_is)
  (case y144=>k_is)
  (case y145=>k_is)
  (case y146=>k_is)
  (case y147=>k_is)
  (case y148=>k_is)
  (case y149=>k_is)
  (case y150=>k_is)
  (case y151=>k_is)
  (case y152=>k_is)
  (case y153=>k_is)
  (case y154=>k_is)
  (case y155=>k_is)
  (case y156=>k_is)
  (case y157=>k_is)
  (case y158=>k_is)
  (case y159=>k_is)
  (case y160=>k_is)
  (case y161=>k_is)
  (case y162=>k_is)
  (case y163=>k_is)
  (case y164=>k_is)
  (case y66=>k_is)
  (case y165=>k_is)
  (case y166=>k_is)
  (case y167=>k_is)
  (case y67=>k_is)
  (case y168=>k_is)
  (case y169=>k_is)
  (case y170=>k_is)
  (case y68=>k_is)
  (case y171=>k_is)
  (case y172=>k_is)
  (case y173=>k_is)
  (case y69=>k_is)
  (case y174=>k_is)
  (case y175=>k_is)
  (case y176=>k_is)
  (case y177=>k_is)
  (case y178=>k_is)
  (case y179=>k_is)
  (case y180=>k_is)
  (case y181=>k_is)
  (case y182=>k_is)
  (case y70=>k_is)
  (case y183=>k_is)
  (case y184=>k_is)
  (case y185=>k_is)
  (case y186=>k_is)
  (case y71=>k_is)
  (case y187=>k_is)
  (case y188=>k_is)
  (case y189=>k_is)
  (case y190=>k_is)
  (case y72=>k_is)
  (case y191=>k_is)
  (case y192=>k_is)
  (case y193=>k_is)
  (case y194=>k_is)
  (case y73=>k_is)
  (case y195=>k_is)
  (case y196=>k_is)
  (case y197=>k_is)
  (case y198=>k_is)
  (case y74=>k_is)
  (case y199=>k_is)
  (case y200=>k_is)
  (case y201=>k_is)
  (case y202=>k_is)
  (case y75=>k_is)
  (case y203=>k_is)
  (case y204=>k_is)
  (case y205=>k_is)
  (case y206=>k_is)
  (case y207=>k_is)
  (case y76=>k_is)
  (case y77=>k_is)
  (case y208=>k_is)
  (case y209=>k_is)
  (case y63=>k_is)
  (case y210=>k_is)
  (case y211=>k_is)
  (case y212=>k_is)
  (case y213=>k_is)
  (case y78=>k_is)
  (case y214=>k_is)
  (case y215=>k_is)
  (case y216=>k_is)
  (case y217=>k_is)
  (case y79=>k_is)
  (case y218=>k_is)
  (case y219=>k_is)
  (case y220=>k_is)
  (case y221=>k_is)
  (case y80=>k_is)
  (case y222=>k_is)
  (case y223=>k_is)
  (case y224=>k_is)
  (case y225=>k_is)
  (case y81=>k_is)
  (case y226=>k_is)
  (case y227=>k_is)
  (case y228=>k_is)
  (case y229=>k_is)
  (case y82=>k_is)
  (case y230=>k_is)
  (case y231=>k_is)
  (case y232=>k_is)
  (case y233=>k_is)
  (case y83=>k_is)
  (case y234=>k_is)
  (case y235=>k_is)
  (case y236=>k_is)
  (case y237=>k_is)
  (case y84=>k_is)
  (case y238=>k_is)
  (case y239=>k_is)
  (case y240=>k_is)
  (case y241=>k_is)
  (case y85=>k_is)
  (case y242=>k_is)
  (case y243=>k_is)
  (case y244=>k_is)
  (case y245=>k_is)
  (case y86=>k_is)
  (case y246=>k_is)
  (case y247=>k_is)
  (case y248=>k_is)
  (case y249=>k_is)
  (case y87=>k_is)
  (case y250=>k_is)
  (case y251=>k_is)
  (case y252=>k_is)
  (case y253=>k_is)
  (case y88=>k_is)
  (case y254=>k_is)
  (case y255=>k_is)
  (case y256=>k_is)
  (case y257=>k_is)
  (case y89=>k_is)
  (case y258=>k_is)
  (case y259=>k_is)
  (case y260=>k_is)
  (case y90=>k_is)
  (case y91=>k_is)
  (case y261=>k_is)
  (case y262=>k_is)
  (case y64=>k_is)
  (case y263=>k_is)
  (case y264=>k_is)
  (case y265=>k_is)
  (case y92=>k_is)
  (case y266=>k_is)
  (case y267=>k_is)
  (case y268=>k_is)
  (case y93=>k_is)
  (case y269=>k_is)
  (case y270=>k_is)
  (case y271=>k_is)
  (case y94=>k_is)
  (case y272=>k_is)
  (case y273=>k_is)
  (case y274=>k_is)
  (case y95=>k_is)
  (case y275=>k_is)
  (case y276=>k_is)
  (case y277=>k_is)
  (case y96=>k_is)
  (case y278=>k_is)
  (case y279=>k_is)
  (case y280=>k_is)
  (case y97=>k_is)
  (case y281=>k_is)
  (case y282=>k_is)
  (case y283=>k_is)
  (case y98=>k_is)
  (case y99=>k_is)
  (case y284=>k_is)
  (case y285=>k_is)
  (case y65=>k_is)
  (case y286=>k_is)
  (case y287=>k_is)
  (case y288=>k_is)
  (case y100=>k_is)
  (case y289=>k_is)
  (case y290=>k_is)
  (case y291=>k_is)
  (case y101=>k_is)
  (case y292=>k_is)
  (case y293=>k_is)
  (case y294=>k_is)
  (case y102=>k_is)
  (case y295=>k_is)
  (case y296=>k_is)
  (case y297=>k_is)
  (case y103=>k_is)
  (case y298=>k_is)
  (case y299=>k_is)
  (case y300=>k_is)
  (case y104=>k_is)
  (case y301=>k_is)
  (case y302=>k_is)
  (case y303=>k_is)
  (case y105=>k_is)
  (case y304=>k_is)
  (case y305=>k_is)
  (case y306=>k_is)
  (case y106=>k_is)
  (case y307=>k_is)
  (case y308=>k_is)
  (case y309=>k_is)
  (case y107=>k_is)
  (case y310=>k_is)
  (case y311=>k_is)
  (case y312=>k_is)
  (case y108=>k_is)
  (case y313=>k_is)
  (case y314=>k_is)
  (case y315=>k_is)
  (case y109=>k_is)
  (case y316=>k_is)
  (case y317=>k_is)
  (case y318=>k_is)
  (case y110=>k_is)
  (case y319=>k_is)
  (case y320=>k_is)
  (case y321=>k_is)
  (case y111=>k_is)
  (case y322=>k_is)
  (case y323=>k_is)
  (case y324=>k_is)
  (case y112=>k_is)
  (case y325=>k_is)
  (case y326=>k_is)
  (case y327=>k_is)
  (case y113=>k_is)
  (case y328=>k_is)
  (case y329=>k_is)
  (case y330=>k_is)
  (case y114=>k_is)
  (case y331=>k_is)
  (case y332=>k_is)
  (case y333=>k_is)
  (case y115=>k_is)
  (case y334=>k_is)
  (case y335=>k_is)
  (case y336=>k_is)
  (case y116=>k_is)
  (case y337=>k_is)
  (case y338=>k_is)
  (case y339=>k_is)
  (case y117=>k_is)
  (case y340=>k_is)
  (case y341=>k_is)
  (case y342=>k_is)
  (case y118=>k_is)
  (case y343=>k_is)
  (case y344=>k_is)
  (case y345=>k_is)
  (case y119=>k_is)
  (case y346=>k_is)
  (case y347=>k_is)
  (case y348=>k_is)
  (case y120=>k_is)
  (case y349=>k_is)
  (case y350=>k_is)
  (case y351=>k_is)
  (case y352=>k_is)
  (case y353=>k_is)
  (case y354=>k_is)
  (case y355=>k_is)
  (case y356=>k_is)
  (case y357=>k_is)
  (case y358=>k_is)
  (case y359=>k_is)
  (case y360=>k_is)
  (case y361=>k_is)
  (case y362=>k_is)
  (case y363=>k_is)
  (case y364=>k_is)
  (case y365=>k_is)
  (case y366=>k_is)
  (case y367=>k_is)
  (case y368=>k_is)
  (case y369=>k_is)
  (case y370=>k_is)
  (case y371=>k_is)
  (case y372=>k_is)
