import PyProof.Rows.All
import Wide.All
import OpenK.AllK
import Wide.FinOn
import Lean
import PyProof.EqAt
import PyProof.EqKinds
import PyProof.TupleCall
import PySem.Challenge.RW_glazework_k20_pictures_known
set_option compiler.extract_closed false
noncomputable section
set_option Elab.async false
set_option linter.all false
set_option maxRecDepth 100000
namespace L2
open PySem PySem.Spec PyProof.Rows
noncomputable abbrev Key:=Sum Int Str
noncomputable def bS6 : Key → Value → Bool
 | .inl k,v=>Value.isInt k v
 | .inr x,v=>Value.isStrOf x v
noncomputable def cw9 (w : World) : Key → Int
 | .inl k=>hashInt k
 | .inr x=>hashStr w x
theorem M2 : ∀ {k : Key} {v : Value},bS6 k v = true → (∃ i t,k = Sum.inl i ∧ v = Value.int i t) ∨ (∃ x t,k = Sum.inr x ∧ v = Value.str x t)
 | .inl i,v,h=>by
  obtain ⟨t,e⟩:=Value.isInt_shape (k:=i) (v:=v) h
  exact .inl ⟨i,t,rfl,e⟩
 | .inr x,v,h=>by
  obtain ⟨t,e⟩:=Value.isStrOf_shape (x:=x) (v:=v) h
  exact .inr ⟨x,t,rfl,e⟩
theorem cf1 (a b : Int) : decide ((Sum.inl a : Key) = Sum.inl b) = (a == b):=by
 by_cases e : a = b
 ·subst e; simp
 ·have h : ¬ (Sum.inl a : Key) = Sum.inl b:=fun q=>e (Sum.inl.inj q)
  rw [decide_eq_false h]
  exact (beq_eq_false_iff_ne.mpr e).symm
theorem ce8 (a b : Str) : decide ((Sum.inr a : Key) = Sum.inr b) = decide (a = b):=by
 by_cases e : a = b
 ·subst e; simp
 ·have h : ¬ (Sum.inr a : Key) = Sum.inr b:=fun q=>e (Sum.inr.inj q)
  rw [decide_eq_false h,decide_eq_false e]
theorem cf0 (a : Int) (b : Str) : decide ((Sum.inl a : Key) = Sum.inr b) = false:=decide_eq_false (fun q=>nomatch q)
theorem ce9 (a : Str) (b : Int) : decide ((Sum.inr a : Key) = Sum.inl b) = false:=decide_eq_false (fun q=>nomatch q)
noncomputable def aJ6 (prog : Program) (w : World) : PySem.KeyKind prog w Key where
 is:=bS6
 hash:=cw9 w
 inj:=fun v a b ha hb=>by
  rcases M2 ha with ⟨i,t,rfl,rfl⟩ | ⟨x,t,rfl,rfl⟩
  ·rcases M2 hb with ⟨j,u,rfl,e⟩ | ⟨y,u,rfl,e⟩
   ·injection e with e1 _; rw [e1]
   ·exact nomatch e
  ·rcases M2 hb with ⟨j,u,rfl,e⟩ | ⟨y,u,rfl,e⟩
   ·exact nomatch e
   ·injection e with e1 _; rw [e1]
 byValue:=fun k v h=>by
  rcases M2 h with ⟨i,t,rfl,rfl⟩ | ⟨x,t,rfl,rfl⟩ <;> rfl
 pyHash:=fun hv h=>by
  rcases M2 hv with ⟨i,t,rfl,rfl⟩ | ⟨x,t,rfl,rfl⟩
  ·exact wpAny_pyHash_int h
  ·exact wpAny_pyHash_str h
 eqBool:=fun hu hv h=>by
  rcases M2 hu with ⟨i,t,rfl,rfl⟩ | ⟨x,t,rfl,rfl⟩
  ·rcases M2 hv with ⟨j,u,rfl,rfl⟩ | ⟨y,u,rfl,rfl⟩
   ·rw [cf1] at h; exact wpAny_eqBool_int h
   ·rw [cf0] at h; exact SeqAt.EqAt.int_str i t y u _ _ _ _ h
  ·rcases M2 hv with ⟨j,u,rfl,rfl⟩ | ⟨y,u,rfl,rfl⟩
   ·rw [ce9] at h; exact SeqAt.EqAt.str_int x t j u _ _ _ _ h
   ·rw [ce8] at h; exact wpAny_eqBool_str h
 «strs»:=fun k x t v h=>by
  rcases M2 h with ⟨i,u,rfl,e⟩ | ⟨y,u,rfl,e⟩
  ·exact nomatch e
  ·injection e with e1 _
   subst e1
   cases v <;> rfl
end L2
namespace L2
open PySem PySem.Spec PyProof.Rows
inductive V where
 | non | bl (b : Bool) | int (i : Int) | str (x : Str) | byt (b : Array UInt8) | flt (b : UInt64) | ref (a : Addr) | ty (n : String)
 deriving DecidableEq
noncomputable def K8 : V → Value → Prop
 | .non,u=>u = Value.none
 | .bl b,u=>u = Value.bool b
 | .int i,u=>∃ t,u = Value.int i t
 | .str x,u=>∃ t,u = Value.str x t
 | .byt b,u=>∃ t,u = Value.bytes b t
 | .flt b,u=>∃ t,u = Value.float b t
 | .ref a,u=>u = Value.ref a
 | .ty n,u=>u = Value.type n
noncomputable abbrev F6 : List V → List Value → Prop:=Paired K8
theorem F6.length {xs : List V} {us : List Value} (r : F6 xs us) : xs.length = us.length:=Paired.length r
theorem F6.get : ∀ {xs : List V} {us : List Value} {i : Nat} {x : V},F6 xs us → xs[i]? = some x → ∃ u,us[i]? = some u ∧ K8 x u
 | _,_,_,_,.nil,e=>by simp at e
 | _,_,0,_,.cons r _,e=>by simp at e; subst e; exact ⟨_,rfl,r⟩
 | _,_,i + 1,x,.cons _ t,e=>by
  obtain ⟨u,h1,h2⟩:=F6.get (i:=i) (x:=x) t (by simpa using e)
  exact ⟨u,by simpa using h1,h2⟩
theorem F6.append : ∀ {xs ys : List V} {us ws : List Value},F6 xs us → F6 ys ws → F6 (xs ++ ys) (us ++ ws)
 | _,_,_,_,.nil,s=>s
 | _,_,_,_,.cons r t,s=>.cons r (F6.append t s)
theorem F6.take : ∀ {xs : List V} {us : List Value} (n : Nat),F6 xs us → F6 (xs.take n) (us.take n)
 | _,_,0,_=>.nil
 | _,_,_ + 1,.nil=>.nil
 | _,_,n + 1,.cons r t=>.cons r (F6.take n t)
theorem F6.drop : ∀ {xs : List V} {us : List Value} (n : Nat),F6 xs us → F6 (xs.drop n) (us.drop n)
 | _,_,0,r=>r
 | _,_,_ + 1,.nil=>.nil
 | _,_,n + 1,.cons _ t=>F6.drop n t
noncomputable def cu4 : Option V → Option Value → Prop
 | some v,some u=>K8 v u
 | none,none=>True
 | _,_=>False
noncomputable def KV {κ : Type} : List (κ × V) → List (κ × Value) → Prop:=Paired fun (p : κ × V) (q : κ × Value)=>p.1 = q.1 ∧ K8 p.2 q.2
noncomputable def kV : Key → V
 | .inl i=>.int i
 | .inr x=>.str x
inductive HO where
 /-- a list -/
 | lst (xs : List V)
 /-- a tuple (never changes) -/
 | tup (xs : List V)
 /-- a dict whose keys are ints and texts; one whose keys are tuples of ints and texts (the empty one is both) -/
 | dK (kvs : List (Key × V)) | dT (kvs : List (List Key × V))
 /-- a set of ints: its members,its size -/
 | set (S : Int → Bool) (n : Nat)
 /-- an instance of the class at C,its dict at dx,its attributes -/
 | ins (C dx : Addr) (fs : List (Str × V))
 /-- the dict of the instance at x -/
 | own (x : Addr)
 /-- the dict of an exception -/
 | xd (fs : List (Str × V))
 /-- a bound method,f of x -/
 | met (f x : Addr)
 /-- a range object lo,lo + 1,.. below hi -/
 | rng (lo hi : Int)
 /-- a thing that is known to the object (the script; a dict while a loop walks it): read,never written while it is so -/
 | frz (o : Obj) (u : HO)
 /-- a code object's table -/
 | tbl (ps : Array Value)
 /-- any other thing,by what is true of its one object (a def of one's own: SetO a S n:=HO.ext fun h=>..) -/
 | ext (φ : Heap → Prop)
noncomputable abbrev Hp:=Addr → Option HO
noncomputable def upd (H : Hp) (a : Addr) (o : HO) : Hp:=fun b=>if b = a then some o else H b
theorem D6 {H : Hp} {a : Addr} {o : HO} : upd H a o a = some o:=by unfold upd; rw [if_pos rfl]
theorem D7 {H : Hp} {a b : Addr} {o : HO} (h : b ≠ a) : upd H a o b = H b:=by unfold upd; rw [if_neg h]
theorem D8 {H : Hp} {a b : Addr} {o : HO} (h : H a = some o) (h' : H b = none) : a ≠ b:=by
 intro e; subst e; rw [h] at h'; cases h'
section
variable (P : Program) (w : World)
noncomputable def Z4 (H : Hp) (h : Heap) (a : Addr) : HO → Prop
 | .lst xs=>xs.length ≤ sizeLine ∧ ∃ (its : List Value) (n : Nat),F6 xs its ∧ h.get? a = some { cls:=.type "list", data:=.seq its.toArray n }
 | .tup xs=>xs.length ≤ sizeLine ∧ ∃ its : List Value,F6 xs its ∧ IsTup h a its.toArray
 | .dK kvs=>kvs.length ≤ sizeLine ∧ (a == sysModules) = false ∧ ∃ vs,KV kvs vs ∧ h.DictOf (aJ6 P w) a vs
 | .dT kvs=>kvs.length ≤ sizeLine ∧ (a == sysModules) = false ∧ ∃ xs : List (List Key × Addr × Value),
   Paired (fun (p : List Key × V) (q : List Key × Addr × Value)=>p.1 = q.1 ∧ H q.2.1 = some (.tup (p.1.map kV)) ∧ K8 p.2 q.2.2) kvs xs ∧
   ∃ o es ep,h.get? a = some o ∧ o.ExactDict ∧ o.data = .dict es ep ∧ es.toList = xs.map (entryOfKey (tupleKind (aJ6 P w))) ∧ (xs.map (·.1)).Nodup
 | .set S n=>h.SetOf (intKind P w) a S n
 | .ins C dx fs=>H dx = some (.own a) ∧ fs.length ≤ 1000 ∧ dx ≠ a ∧ h.get? a = some (PySem.W.instObj C dx) ∧
   ∃ mA,h.Ns1 dx mA ∧ (∀ f,cu4 (fs.lookup f) (mA f)) ∧ PySem.Within mA (fs.map (·.1))
 | .own _=>∃ o,h.get? a = some o
 | .xd fs=>∃ mA,h.Ns1 a mA ∧ ∀ f,cu4 (fs.lookup f) (mA f)
 | .rng lo hi=>∃ t u v,h.get? a = some { cls:=.type "range", data:=.fields #[.int lo t,.int hi u,.int 1 v] }
 | .frz o u=>h.get? a = some o ∧ Z4 H h a u
 | .tbl ps=>h.get? a = some { cls:=.none,data:=.fields ps }
 | .met f x=>h.get? a = some (PySem.W.methodObj (.ref f) (.ref x))
 | .ext φ=>φ h ∧ (∃ o,h.get? a = some o) ∧ ∀ h1 h2 : Heap,φ h1 → (∀ o,h1.get? a = some o → h2.get? a = some o) → φ h2
noncomputable def HOk (H : Hp) (h : Heap) : Prop:=∀ a o,H a = some o → Z4 P w H h a o
end
section
variable {P : Program} {w : World} {H H' : Hp} {h h' : Heap} {a : Addr} {o : HO}
theorem Z4.lt (x : Z4 P w H h a o) : a < h.objs.size:=by
 cases o with
 | lst xs=>obtain ⟨_,_,_,_,e⟩:=x; exact Heap.lt_size e
 | tup xs=>obtain ⟨_,_,_,p⟩:=x; exact p.lt
 | dK kvs=>obtain ⟨_,_,_,_,o,_,_,e,_⟩:=x; exact Heap.lt_size e
 | dT kvs=>obtain ⟨_,_,_,_,o,_,_,e,_⟩:=x; exact Heap.lt_size e
 | set S n=>obtain ⟨o,_,_,_,e,_⟩:=x; exact Heap.lt_size e
 | ins C dx fs=>obtain ⟨_,_,_,e,_⟩:=x; exact Heap.lt_size e
 | own y=>obtain ⟨_,e⟩:=x; exact Heap.lt_size e
 | xd fs=>obtain ⟨_,⟨_,_,_,e,_⟩,_⟩:=x; exact Heap.lt_size e
 | rng lo hi=>obtain ⟨_,_,_,e⟩:=x; exact Heap.lt_size e
 | frz ob u=>obtain ⟨e,_⟩:=x; exact Heap.lt_size e
 | tbl ps=>exact Heap.lt_size (show h.get? a = some _ from x)
 | met f y=>exact Heap.lt_size (show h.get? a = some _ from x)
 | ext φ=>obtain ⟨_,⟨_,e⟩,_⟩:=x; exact Heap.lt_size e
theorem Paired.mapP {α β : Type} {F G : α → β → Prop} : ∀ {l₁ : List α} {l₂ : List β},Paired F l₁ l₂ → (∀ a b,F a b → G a b) → Paired G l₁ l₂
 | _,_,.nil,_=>.nil
 | _,_,.cons r t,f=>.cons (f _ _ r) (Paired.mapP t f)
theorem Z4.stay (x : Z4 P w H h a o) (k : ∀ b u,(b = a ∨ H b = some (.own a)) → h.get? b = some u → h'.get? b = some u)
  (ho : ∀ b,H b = some (.own a) → H' b = some (.own a)) (ht : ∀ b xs,H b = some (.tup xs) → H' b = some (.tup xs)) : Z4 P w H' h' a o:=by
 induction o with
 | lst xs=>obtain ⟨z,its,n,r,e⟩:=x; exact ⟨z,its,n,r,k _ _ (.inl rfl) e⟩
 | tup xs=>obtain ⟨z,its,r,ob,e,c⟩:=x; exact ⟨z,its,r,ob,k _ _ (.inl rfl) e,c⟩
 | dK kvs=>obtain ⟨z,y,vs,r,ob,es,ep,e,c⟩:=x; exact ⟨z,y,vs,r,ob,es,ep,k _ _ (.inl rfl) e,c⟩
 | dT kvs =>
  obtain ⟨z,y,xs,r,ob,es,ep,e,c⟩:=x
  exact ⟨z,y,xs,Paired.mapP r fun p q z=>⟨z.1,ht _ _ z.2.1,z.2.2⟩,ob,es,ep,k _ _ (.inl rfl) e,c⟩
 | set S n=>obtain ⟨ob,es,ep,t,e,c⟩:=x; exact ⟨ob,es,ep,t,k _ _ (.inl rfl) e,c⟩
 | ins C dx fs =>
  obtain ⟨d,z,ne,e,mA,⟨od,es,ep,e2,c⟩,r⟩:=x
  exact ⟨ho _ d,z,ne,k _ _ (.inl rfl) e,mA,⟨od,es,ep,k _ _ (.inr d) e2,c⟩,r⟩
 | own y=>obtain ⟨ob,e⟩:=x; exact ⟨ob,k _ _ (.inl rfl) e⟩
 | xd fs=>obtain ⟨mA,⟨od,es,ep,e,c⟩,r⟩:=x; exact ⟨mA,⟨od,es,ep,k _ _ (.inl rfl) e,c⟩,r⟩
 | rng lo hi=>obtain ⟨t,u,v,e⟩:=x; exact ⟨t,u,v,k _ _ (.inl rfl) e⟩
 | frz ob u ih=>obtain ⟨e,q⟩:=x; exact ⟨k _ _ (.inl rfl) e,ih q⟩
 | tbl ps =>
  have e : h.get? a = some { cls:=.none,data:=.fields ps }:=x
  show h'.get? a = some { cls:=.none,data:=.fields ps }
  exact k a _ (.inl rfl) e
 | met f y =>
  have e : h.get? a = some (PySem.W.methodObj (.ref f) (.ref y)):=x
  show h'.get? a = some (PySem.W.methodObj (.ref f) (.ref y))
  exact k a _ (.inl rfl) e
 | ext φ=>obtain ⟨p,⟨o,e⟩,st⟩:=x; exact ⟨st _ _ p fun o q=>k _ _ (.inl rfl) q,⟨o,k _ _ (.inl rfl) e⟩,st⟩
theorem HOk.lt (x : HOk P w H h) (e : H a = some o) : a < h.objs.size:=(x a o e).lt
theorem HOk.fresh (x : HOk P w H h) (e : h.objs.size ≤ a) : H a = none:=by
 cases q : H a with
 | none=>rfl
 | some u=>exact absurd (Nat.lt_of_lt_of_le (x.lt q) e) (Nat.lt_irrefl _)
theorem HOk.kept (x : HOk P w H h) (k : ∀ b u,h.get? b = some u → h'.get? b = some u) : HOk P w H h':=fun a o e =>
 (x a o e).stay (fun b u _ q=>k b u q) (fun _ q=>q) fun _ _ q=>q
theorem HOk.laid (x : HOk P w H h) (k : ∀ b u,h.get? b = some u → h'.get? b = some u) (hp : h.objs.size ≤ a) (new : Z4 P w (upd H a o) h' a o) : HOk P w (upd H a o) h':=fun b u e=>by
 have hn:=x.fresh hp
 by_cases hb : b = a
 ·subst hb; rw [D6] at e; cases e; exact new
 ·rw [D7 hb] at e
  exact (x b u e).stay (fun c v _ q=>k c v q) (fun c q=>by rw [D7 (D8 q hn)]; exact q) fun c xs q=>by rw [D7 (D8 q hn)]; exact q
end
noncomputable def Rd (H : Hp) (a : Addr) (u : HO) : Prop:=H a = some u ∨ ∃ o,H a = some (.frz o u)
theorem Rd.ok {P : Program} {w : World} {H : Hp} {h : Heap} {a : Addr} {u : HO} (r : Rd H a u) (x : HOk P w H h) : Z4 P w H h a u:=by
 rcases r with r | ⟨o,r⟩
 ·exact x a u r
 ·obtain ⟨_,q⟩:=x a _ r
  exact q
noncomputable def Mut : Option HO → Prop
 | some (.lst _)=>True
 | some (.dK _)=>True
 | some (.dT _)=>True
 | some (.set _ _)=>True
 | some (.ins _ _ _)=>True
 | some (.ext _)=>True
 | _=>False
section
variable {P : Program} {w : World} {H : Hp} {h h' : Heap} {x e : Addr} {o' : HO}
theorem HOk.write (ok : HOk P w H h) (mu : Mut (H x)) (he : e = x ∨ H e = some (.own x)) (k : ∀ b u,b ≠ e → h.get? b = some u → h'.get? b = some u) (heo : ∃ u,h'.get? e = some u)
  (new : Z4 P w (upd H x o') h' x o') : HOk P w (upd H x o') h':=fun b u q=>by
 have nown : ∀ c y,H c = some (.own y) → c ≠ x:=fun c y r z=>by subst z; rw [r] at mu; exact mu
 have ntup : ∀ c xs,H c = some (.tup xs) → c ≠ x:=fun c xs r z=>by subst z; rw [r] at mu; exact mu
 by_cases hb : b = x
 ·subst hb; rw [D6] at q; cases q; exact new
 ·rw [D7 hb] at q
  by_cases hbe : b = e
  ·have q' : H b = some (.own x):=by
    rcases he with z | z
    ·exact absurd (hbe.trans z) hb
    ·rw [hbe]; exact z
   rw [q] at q'; cases q'
   obtain ⟨v,hv⟩:=heo
   exact ⟨v,by rw [hbe]; exact hv⟩
  ·refine (ok b u q).stay (fun c v hc r=>k c v ?_ r) (fun c r=>by rw [D7 (nown c b r)]; exact r) fun c xs r=>by rw [D7 (ntup c xs r)]; exact r
   rcases hc with rfl | hc
   ·exact hbe
   ·rintro rfl
    rcases he with z | z
    ·exact nown c b hc z
    ·rw [hc] at z; cases z; exact hb rfl
end
structure Un (fs ex : List Addr) (H H' : Hp) (h h' : Heap) : Prop where
 keep : ∀ b o,h.get? b = some o → H b = none → b ∉ fs → b ∉ ex → h'.get? b = some o
 slot : ∀ b o,h.get? b = some o → H b = none → b ∈ fs → b ∉ ex → ∃ sl,h'.get? b = some { o with slots:=sl }
 free : ∀ b o,h.get? b = some o → H b = none → b ∉ ex → H' b = none
 there : ∀ b o,h.get? b = some o → b ∉ ex → ∃ o',h'.get? b = some o'
 tups : ∀ b xs,H b = some (.tup xs) → H' b = some (.tup xs)
 frzs : ∀ b o u,H b = some (.frz o u) → H' b = some (.frz o u)
 tbls : ∀ b ps,H b = some (.tbl ps) → ∃ more,H' b = some (.tbl (ps ++ more))
section
variable {fs fs' ex ex' : List Addr} {H H1 H2 : Hp} {h h1 h2 h' : Heap} {a x e : Addr} {o : HO}
theorem Un.any (u : Un fs ex H H1 h h1) {b : Addr} {ob : Obj} (q : h.get? b = some ob) (n : H b = none) (hx : b ∉ ex) : ∃ sl,h1.get? b = some { ob with slots:=sl }:=by
 by_cases hb : b ∈ fs
 ·exact u.slot b ob q n hb hx
 ·exact ⟨ob.slots,u.keep b ob q n hb hx⟩
theorem Un.kept (k : ∀ b u,h.get? b = some u → h'.get? b = some u) : Un fs ex H H h h' :=
 ⟨fun b ob q _ _ _=>k b ob q,fun b ob q _ _ _=>⟨ob.slots,k b ob q⟩,fun _ _ _ n _=>n,fun b ob q _=>⟨ob,k b ob q⟩,fun _ _ q=>q,fun _ _ _ q=>q,fun _ ps q=>⟨#[],by rw [q]; simp⟩⟩
theorem Un.refl : Un fs ex H H h h:=Un.kept fun _ _ q=>q
theorem Un.laid (k : ∀ b u,h.get? b = some u → h'.get? b = some u) (hp : h.objs.size ≤ a) (hn : H a = none) : Un fs ex H (upd H a o) h h' where
 keep:=fun b u q _ _ _=>k b u q
 slot:=fun b u q _ _ _=>⟨u.slots,k b u q⟩
 free:=fun b u q n _=>by rw [D7 (Nat.ne_of_lt (Nat.lt_of_lt_of_le (Heap.lt_size q) hp))]; exact n
 there:=fun b u q _=>⟨u,k b u q⟩
 tups:=fun b xs q=>by rw [D7 (D8 q hn)]; exact q
 frzs:=fun b u xs q=>by rw [D7 (D8 q hn)]; exact q
 tbls:=fun b ps q=>⟨#[],by rw [D7 (D8 q hn),q]; simp⟩
theorem Un.write (mu : Mut (H x)) (he : e = x ∨ H e = some (.own x)) (k : ∀ b u,b ≠ e → h.get? b = some u → h'.get? b = some u) (heo : ∃ u,h'.get? e = some u) : Un fs ex H (upd H x o) h h':=by
 have hx : ∀ b,H b = none → b ≠ x:=fun b n z=>by subst z; rw [n] at mu; exact mu
 have hb : ∀ b,H b = none → b ≠ e:=fun b n z=>by
  subst z
  rcases he with r | r
  ·exact hx b n r
  ·rw [n] at r; cases r
 have hm : ∀ b u,H b = some u → ¬ Mut (some u) → b ≠ x:=fun b u q nm z=>by subst z; rw [q] at mu; exact nm mu
 refine ⟨fun b u q n _ _=>k b u (hb b n) q,fun b u q n _ _=>⟨u.slots,k b u (hb b n) q⟩,fun b u q n _=>by rw [D7 (hx b n)]; exact n,fun b u q _=>?_,
  fun b xs q=>by rw [D7 (hm b _ q fun z=>z)]; exact q,fun b u xs q=>by rw [D7 (hm b _ q fun z=>z)]; exact q,fun b ps q=>⟨#[],by rw [D7 (hm b _ q fun z=>z),q]; simp⟩⟩
 by_cases hbe : b = e
 ·subst hbe; exact heo
 ·exact ⟨u,k b u hbe q⟩
end
noncomputable def trk (h : Heap) (H : Hp) : List Addr:=(List.range h.objs.size).filter fun a=>(H a).isSome
noncomputable def aK2 (h : Heap) (H : Hp) : Heap:=PySem.W.hideAll h (trk h H)
theorem bn5 (h : Heap) (H : Hp) : (aK2 h H).objs.size = h.objs.size:=PySem.W.hideAll_size _ _
theorem bC1 {h : Heap} {H : Hp} {b : Addr} {o : Obj} (e : h.get? b = some o) (n : H b = none) : (aK2 h H).get? b = some o :=
 PySem.W.hideAll_get _ e fun hm=>by
  have q : (H b).isSome = true:=(List.mem_filter.mp hm).2
  rw [n] at q; simp at q
theorem bK1 {h : Heap} {H : Hp} {b : Addr} {o : Obj} (e : (aK2 h H).get? b = some o) : h.get? b = some o ∧ H b = none:=by
 have e' : h.get? b = some o:=PySem.W.of_hideAll (trk h H) e
 refine ⟨e',?_⟩
 cases q : H b with
 | none=>rfl
 | some x =>
  have hm : b ∈ trk h H:=List.mem_filter.mpr ⟨List.mem_range.mpr (Heap.lt_size e'),by simp [q]⟩
  have z : (aK2 h H).get? b = none:=PySem.W.hideAll_none (trk h H) hm
  rw [z] at e; cases e
noncomputable def bQ6 (g h : Heap) (L : Addr) : List (Addr × Obj):=(List.range h.objs.size).filterMap fun a=>if a = L ∨ (g.get? a).isSome = true then none else (h.get? a).map fun o=>(a,o)
noncomputable def T2 (g h : Heap) (L d : Addr) : List (Addr × Obj):=(bQ6 g h L).filter fun p=>decide (p.1 ≠ d)
end L2
namespace L2
open PySem PySem.Spec PyProof.Rows
structure Mod (K : PySem.W.Frag) (mg : Str → Option Value) (base : Heap) : Prop where
 kin : K.In base
 glob : base.Ns mainGlobals mg
 blt : ∃ mb,base.Ns builtinsNs mb ∧ ∀ x : Str,x ≠ "__name__" → mb x = bootBuiltins x
 nolimit : base.NoLimit
structure Cx where
 prog : Program
 w : World
 K : PySem.W.Frag
 mg : Str → Option Value
 base : Heap
 A : Around
 N : List Str
 s₀ : Shared
 H₀ : Hp
 env : Env
 outer : List Env
 stack : List Env
 ex : List Addr
 fn : Str → Bool
 calm : Bool
 pn : List (Addr × Obj)
 xe : Value → Shared → Prop
noncomputable def frs (l : List Env) : List Addr:=l.filterMap (·.frame)
noncomputable abbrev Cx.fs (X : Cx) : List Addr:=frs X.outer
noncomputable def Vis (sc : Scope) (x : Str) : Prop:=sc.names.lookup x = some .local ∨ sc.names.lookup x = some .cell ∨ sc.names.lookup x = some .free
noncomputable def Loc (sc : Scope) (x : Str) : Prop:=sc.names.lookup x = some .local ∨ sc.names.lookup x = some .cell
noncomputable def cx7 (env : Env) (h : Heap) (m : Str → Option Value) (x : Str) (u : Value) : Prop :=
 (env.kindOf x = some .local ∧ m x = some u) ∨ ((env.kindOf x = some .cell ∨ env.kindOf x = some .free) ∧ ∃ c,env.cells.lookup x = some c ∧ h.IsCell c (some u))
structure Cx.Ok (X : Cx) : Prop where
 mod : Mod X.K X.mg X.base
 kind : X.env.scope.kind = .function
 glob : X.env.globals = mainGlobals
 blt : X.env.builtins = builtinsNs
 above : X.s₀.heap.objs.size ≤ X.env.locals
 inj : ∀ x y c,X.env.cells.lookup x = some c → X.env.cells.lookup y = some c → x = y
 has : ∀ x,(X.env.kindOf x = some .cell ∨ X.env.kindOf x = some .free) → ∃ c,X.env.cells.lookup x = some c
 cab : ∀ x c,X.fn x = true → X.env.cells.lookup x = some c → X.s₀.heap.objs.size ≤ c
 hd : X.calm = true → X.A.handled = none
 frames : X.A.frames = some X.stack
 stk : X.stack = X.outer ∨ (X.stack = X.env :: X.outer ∧ X.env.frame = some X.env.locals)
 exf : ∀ b ∈ X.ex,b ≠ X.env.locals ∧ ∀ x c,X.env.cells.lookup x = some c → c ≠ b
 bs : ∀ b o,X.base.get? b = some o → X.s₀.heap.get? b = some o ∧ X.H₀ b = none
 bsz : X.base.objs.size ≤ X.s₀.heap.objs.size
 noex : ∀ b o,X.base.get? b = some o → b ∉ X.ex
 exfs : ∀ b ∈ X.ex,b ∉ X.fs
 funs : X.s₀.heap.FunFrames X.base X.outer
 frf : ∀ b ∈ X.fs,X.H₀ b = none
structure Inv (X : Cx) (pins : List (Addr × Obj)) (σ : List (Option V)) (H : Hp) (s : Shared) : Prop where
 ok : X.Ok
 os : s.os = X.s₀.os
 bare : AllBare s.gens
 base : Un X.fs X.ex X.H₀ H X.s₀.heap s.heap
 loc : ∃ m,s.heap.Ns X.env.locals m ∧ ∀ (i : Nat) (x : Str) (v : V),X.N[i]? = some x → σ[i]? = some (some v) → Vis X.env.scope x → ∃ u,K8 v u ∧ cx7 X.env s.heap m x u
 cell : ∀ x c,X.env.cells.lookup x = some c → ∃ v,s.heap.IsCell c v
 free : H X.env.locals = none
 freeC : ∀ x c,X.env.cells.lookup x = some c → H c = none
 pin : ∀ p ∈ X.pn ++ pins,s.heap.get? p.1 = some p.2 ∧ H p.1 = none ∧ p.1 ≠ X.env.locals ∧ p.1 ∉ X.fs ∧ ∀ v,p.2.data ≠ .cell v
 hok : HOk X.prog X.w H s.heap
 len : σ.length = X.N.length
section
variable {X : Cx} {pins : List (Addr × Obj)} {σ : List (Option V)} {H H' : Hp} {s : Shared} {h' : Heap}
theorem Cx.Ok.nofr (ok : X.Ok) {b : Addr} {o : Obj} (e : X.base.get? b = some o) : b ∉ X.fs:=fun hb=>by
 have:=(ok.funs.mem hb).1
 rw [e] at this; cases this
theorem Inv.bs (I : Inv X pins σ H s) : ∀ b o,X.base.get? b = some o → s.heap.get? b = some o ∧ H b = none:=fun b o e =>
 ⟨I.base.keep b o (I.ok.bs b o e).1 (I.ok.bs b o e).2 (I.ok.nofr e) (I.ok.noex b o e),I.base.free b o (I.ok.bs b o e).1 (I.ok.bs b o e).2 (I.ok.noex b o e)⟩
theorem Inv.bk (I : Inv X pins σ H s) : ∀ b o,X.base.get? b = some o → s.heap.get? b = some o:=fun b o e=>(I.bs b o e).1
theorem Inv.mod (I : Inv X pins σ H s) : Mod X.K X.mg X.base:=I.ok.mod
theorem Inv.kIn (I : Inv X pins σ H s) : X.K.In s.heap:=I.ok.mod.kin.keeps I.bk
theorem Inv.lt (I : Inv X pins σ H s) : X.env.locals < s.heap.objs.size:=let ⟨_,hn,_⟩:=I.loc; hn.lt
theorem Inv.sz (I : Inv X pins σ H s) : X.s₀.heap.objs.size ≤ s.heap.objs.size:=Nat.le_trans I.ok.above (Nat.le_of_lt I.lt)
theorem Inv.nofs (I : Inv X pins σ H s) {a : Addr} (h : s.heap.objs.size ≤ a) : a ∉ X.fs:=fun hb=>by
 obtain ⟨_,o,ho,_⟩:=I.ok.funs.mem hb
 exact absurd (Nat.lt_of_lt_of_le (Heap.lt_size ho) (Nat.le_trans I.sz h)) (Nat.lt_irrefl _)
theorem Inv.cne (I : Inv X pins σ H s) : ∀ x c,X.env.cells.lookup x = some c → c ≠ X.env.locals:=fun x c e z=>by
 obtain ⟨v,o,ho,hd⟩:=I.cell x c e
 obtain ⟨m,⟨o',es,ep,ho',hd',_⟩,_⟩:=I.loc
 rw [z,ho'] at ho; cases ho; rw [hd'] at hd; cases hd
theorem Inv.funs (I : Inv X pins σ H s) : s.heap.FunFrames X.base X.outer:=by
 have all : ∀ (l : List Env),(∀ b ∈ frs l,b ∈ X.fs) → X.s₀.heap.FunFrames X.base l → s.heap.FunFrames X.base l:=by
  intro l
  induction l with
  | nil=>intro _ _; trivial
  | cons env r ih =>
   intro hs hl
   obtain ⟨hk,⟨L,o,hf,hn,ho,hd⟩,hr⟩:=hl
   have hL : L ∈ X.fs:=hs L (by unfold frs; rw [List.filterMap_cons,hf]; exact List.mem_cons_self)
   obtain ⟨sl,e⟩:=I.base.slot L o ho (I.ok.frf L hL) hL fun z=>I.ok.exfs L z hL
   exact ⟨hk,⟨L,_,hf,hn,e,hd⟩,ih (fun b hb=>hs b (by unfold frs; rw [List.filterMap_cons,hf]; exact List.mem_cons_of_mem _ hb)) hr⟩
 exact all X.outer (fun _ hb=>hb) I.ok.funs
theorem Inv.stack (I : Inv X pins σ H s) : s.heap.FunFrames X.base X.stack:=by
 rcases I.ok.stk with e | ⟨e,hf⟩
 ·rw [e]; exact I.funs
 ·rw [e]
  obtain ⟨m,hn,_⟩:=I.loc
  refine .cons (by rw [I.ok.kind]; decide) hf hn ?_ I.funs
  exact Heap.get?_none_of_le (Nat.le_trans I.ok.bsz I.ok.above)
theorem Inv.stkSub (I : Inv X pins σ H s) : ∀ b ∈ frs X.stack,b ∈ X.env.locals :: X.fs:=fun b hb=>by
 rcases I.ok.stk with e | ⟨e,hf⟩
 ·rw [e] at hb; exact List.mem_cons_of_mem _ hb
 ·rw [e] at hb
  unfold frs at hb
  rw [List.filterMap_cons,hf] at hb
  exact hb
theorem Inv.stkFree (I : Inv X pins σ H s) : ∀ b ∈ frs X.stack,H b = none:=fun b hb=>by
 rcases List.mem_cons.mp (I.stkSub b hb) with e | hb
 ·rw [e]; exact I.free
 ·obtain ⟨_,o,ho,_⟩:=I.ok.funs.mem hb
  exact I.base.free b o ho (I.ok.frf b hb) fun z=>I.ok.exfs b z hb
theorem Inv.step {g' : Array GenState} {t' : Nat} {d' : Drawn} {ch : List Addr} (I : Inv X pins σ H s)
  (hch : ∀ b ∈ ch,(b ∈ X.ex ∨ X.s₀.heap.objs.size ≤ b) ∧ b ≠ X.env.locals ∧ (∀ x c,X.env.cells.lookup x = some c → c ≠ b) ∧ ∀ p ∈ X.pn ++ pins,p.1 ≠ b)
  (keep : ∀ b o,b ≠ X.env.locals → b ∉ X.fs → b ∉ ch → s.heap.get? b = some o → H b = none → h'.get? b = some o)
  (slot : ∀ b o,b ≠ X.env.locals → b ∈ X.fs → b ∉ ch → s.heap.get? b = some o → H b = none → ∃ sl,h'.get? b = some { o with slots:=sl }) (free : ∀ b o,b ∉ ch → s.heap.get? b = some o → H b = none → H' b = none)
  (there : ∀ b o,b ∉ ch → s.heap.get? b = some o → ∃ o',h'.get? b = some o')
  (tups : ∀ b xs,H b = some (.tup xs) → H' b = some (.tup xs)) (frzs : ∀ b o u,H b = some (.frz o u) → H' b = some (.frz o u)) (tbls : ∀ b ps,H b = some (.tbl ps) → ∃ more,H' b = some (.tbl (ps ++ more)))
  (ns : ∀ m,s.heap.Ns X.env.locals m → h'.Ns X.env.locals m) (hok : HOk X.prog X.w H' h') (hg : AllBare g') :
  Inv X pins σ H' { s with heap:=h',gens:=g',drawn:=d',toks:=t' }:=by
 have neL : ∀ b o,X.s₀.heap.get? b = some o → b ≠ X.env.locals:=fun b o e=>Nat.ne_of_lt (Nat.lt_of_lt_of_le (Heap.lt_size e) I.ok.above)
 have neC : ∀ b o,X.s₀.heap.get? b = some o → b ∉ X.ex → b ∉ ch:=fun b o e hx hb=>by
  rcases (hch b hb).1 with z | z
  ·exact hx z
  ·exact absurd (Nat.lt_of_lt_of_le (Heap.lt_size e) z) (Nat.lt_irrefl _)
 have cellK : ∀ x c,X.env.cells.lookup x = some c → ∀ v,s.heap.IsCell c v → h'.IsCell c v:=fun x c e v ⟨o,ho,hd⟩=>by
  have nch : c ∉ ch:=fun z=>(hch c z).2.2.1 x c e rfl
  by_cases hc : c ∈ X.fs
  ·obtain ⟨sl,q⟩:=slot c o (I.cne x c e) hc nch ho (I.freeC x c e)
   exact ⟨_,q,hd⟩
  ·exact ⟨o,keep c o (I.cne x c e) hc nch ho (I.freeC x c e),hd⟩
 refine ⟨I.ok,I.os,hg,⟨fun b o e n hb hx=>?_,fun b o e n hb hx=>?_,fun b o e n hx=>?_,fun b o e hx=>?_,fun b xs e=>tups b xs (I.base.tups b xs e),fun b o xs e=>frzs b o xs (I.base.frzs b o xs e),fun b ps e=>?_⟩,?_,fun x c e=>?_,?_,fun x c e=>?_,fun p hp=>?_,hok,I.len⟩
 ·exact keep b o (neL b o e) hb (neC b o e hx) (I.base.keep b o e n hb hx) (I.base.free b o e n hx)
 ·obtain ⟨sl,e1⟩:=I.base.slot b o e n hb hx
  obtain ⟨sl',e2⟩:=slot b _ (neL b o e) hb (neC b o e hx) e1 (I.base.free b o e n hx)
  exact ⟨sl',e2⟩
 ·obtain ⟨o',e1⟩:=I.base.there b o e hx
  exact free b o' (neC b o e hx) e1 (I.base.free b o e n hx)
 ·obtain ⟨o',e1⟩:=I.base.there b o e hx
  exact there b o' (neC b o e hx) e1
 ·obtain ⟨m1,e1⟩:=I.base.tbls b ps e
  obtain ⟨m2,e2⟩:=tbls b _ e1
  exact ⟨m1 ++ m2,by rw [e2,Array.append_assoc]⟩
 ·obtain ⟨m,hn,hl⟩:=I.loc
  refine ⟨m,ns m hn,fun i x v e1 e2 e3=>?_⟩
  obtain ⟨u,r,l⟩:=hl i x v e1 e2 e3
  refine ⟨u,r,?_⟩
  rcases l with l | ⟨k,c,e,z⟩
  ·exact .inl l
  ·exact .inr ⟨k,c,e,cellK x c e _ z⟩
 ·obtain ⟨v,z⟩:=I.cell x c e
  exact ⟨v,cellK x c e v z⟩
 ·obtain ⟨m,⟨o,_,_,ho,_⟩,_⟩:=I.loc
  exact free _ o (fun z=>(hch _ z).2.1 rfl) ho I.free
 ·obtain ⟨v,o,ho,hd⟩:=I.cell x c e
  exact free c o (fun z=>(hch c z).2.2.1 x c e rfl) ho (I.freeC x c e)
 ·obtain ⟨e,n,ne,nf,d⟩:=I.pin p hp
  have nch : p.1 ∉ ch:=fun z=>(hch p.1 z).2.2.2 p hp rfl
  exact ⟨keep p.1 p.2 ne nf nch e n,free p.1 p.2 nch e n,ne,nf,d⟩
theorem Inv.un {t' : Nat} (I : Inv X pins σ H s) (u : Un X.fs [] H H' s.heap h') (hok : HOk X.prog X.w H' h') : Inv X pins σ H' { s with heap:=h',toks:=t' }:=by
 obtain ⟨m,⟨o,es,ep,ho,r⟩,_⟩:=id I.loc
 obtain ⟨sl,hL⟩:=u.any ho I.free (by simp)
 exact I.step (g':=s.gens) (d':=s.drawn) (ch:=[]) (fun _ z=>nomatch z) (fun b o _ hb _ e n=>u.keep b o e n hb (by simp)) (fun b o _ hb _ e n=>u.slot b o e n hb (by simp)) (fun b o _ e n=>u.free b o e n (by simp)) (fun b o _ e=>u.there b o e (by simp)) u.tups u.frzs u.tbls (fun m' hm=>by
  obtain ⟨o',es',ep',ho',r'⟩:=hm
  rw [ho] at ho'; cases ho'
  exact ⟨_,es',ep',hL,r'⟩) hok I.bare
theorem Inv.call {g' : Array GenState} {t' : Nat} {d' : Drawn} {ch : List Addr} (I : Inv X pins σ H s) (u : Un (frs X.stack) ch H H' s.heap h') (hok : HOk X.prog X.w H' h') (hg : AllBare g')
  (hch : ∀ b ∈ ch,(b ∈ X.ex ∨ X.s₀.heap.objs.size ≤ b) ∧ b ≠ X.env.locals ∧ (∀ x c,X.env.cells.lookup x = some c → c ≠ b) ∧ ∀ p ∈ X.pn ++ pins,p.1 ≠ b) :
  Inv X pins σ H' { s with heap:=h',gens:=g',drawn:=d',toks:=t' }:=by
 obtain ⟨m,⟨o,es,ep,ho,r⟩,_⟩:=id I.loc
 obtain ⟨sl,hL⟩:=u.any ho I.free fun z=>(hch _ z).2.1 rfl
 exact I.step (ch:=ch) hch (fun b o hL hb hc e n=>u.keep b o e n (fun z=>(List.mem_cons.mp (I.stkSub b z)).elim hL hb) hc) (fun b o _ _ hc e n=>u.any e n hc) (fun b o hc e n=>u.free b o e n hc) (fun b o hc e=>u.there b o e hc) u.tups u.frzs u.tbls (fun m' hm=>by
  obtain ⟨o',es',ep',ho',r'⟩:=hm
  rw [ho] at ho'; cases ho'
  exact ⟨_,es',ep',hL,r'⟩) hok hg
theorem Inv.turned {t' : Nat} {it : Addr} (I : Inv X pins σ H s) (k : ∀ b o,b ≠ it → s.heap.get? b = some o → h'.get? b = some o) (hn : H it = none) (hL : it ≠ X.env.locals)
  (h1 : it ∈ X.ex ∨ X.s₀.heap.objs.size ≤ it) (h2 : ∀ x c,X.env.cells.lookup x = some c → c ≠ it) (h3 : ∀ p ∈ X.pn ++ pins,p.1 ≠ it) : Inv X pins σ H { s with heap:=h',toks:=t' }:=by
 have nit : ∀ b u,H b = some u → b ≠ it:=fun b u e z=>by rw [z,hn] at e; cases e
 refine I.step (g':=s.gens) (d':=s.drawn) (ch:=[it]) (fun b hb=>?_) (fun b o _ _ hc e _=>k b o (fun z=>hc (by simp [z])) e) (fun b o _ _ hc e _=>⟨o.slots,k b o (fun z=>hc (by simp [z])) e⟩) (fun _ _ _ _ n=>n)
  (fun b o hc e=>⟨o,k b o (fun z=>hc (by simp [z])) e⟩) (fun _ _ e=>e) (fun _ _ _ e=>e) (fun b ps e=>⟨#[],by rw [e]; simp⟩) (fun m hm=>?_) (fun b u e=>?_) I.bare
 ·have e : b = it:=by simpa using hb
  subst e
  exact ⟨h1,hL,h2,h3⟩
 ·obtain ⟨o,es,ep,ho,r⟩:=hm
  exact ⟨o,es,ep,k _ o (Ne.symm hL) ho,r⟩
 ·refine (I.hok b u e).stay (fun c v hc q=>k c v ?_ q) (fun _ q=>q) fun _ _ q=>q
  rcases hc with z | z
  ·rw [z]; exact nit b u e
  ·exact nit c _ z
theorem Inv.tok (I : Inv X pins σ H s) (t : Nat) : Inv X pins σ H { s with toks:=t }:=I.un (h':=s.heap) (t':=t) Un.refl I.hok
theorem Inv.kept {t' : Nat} (I : Inv X pins σ H s) (k : ∀ b u,s.heap.get? b = some u → h'.get? b = some u) : Inv X pins σ H { s with heap:=h',toks:=t' }:=I.un (Un.kept k) (I.hok.kept k)
theorem Inv.laid {a : Addr} {o : HO} {t' : Nat} (I : Inv X pins σ H s) (k : ∀ b u,s.heap.get? b = some u → h'.get? b = some u) (hp : s.heap.objs.size ≤ a) (new : Z4 X.prog X.w (upd H a o) h' a o) :
  Inv X pins σ (upd H a o) { s with heap:=h',toks:=t' }:=I.un (Un.laid k hp (I.hok.fresh hp)) (I.hok.laid k hp new)
theorem Inv.write {x e : Addr} {o : HO} {t' : Nat} (I : Inv X pins σ H s) (mu : Mut (H x)) (he : e = x ∨ H e = some (.own x)) (k : ∀ b u,b ≠ e → s.heap.get? b = some u → h'.get? b = some u) (heo : ∃ u,h'.get? e = some u)
  (new : Z4 X.prog X.w (upd H x o) h' x o) : Inv X pins σ (upd H x o) { s with heap:=h',toks:=t' }:=I.un (Un.write mu he k heo) (I.hok.write mu he k heo new)
theorem Inv.pins_of {pins' : List (Addr × Obj)} (I : Inv X pins σ H s) (h : ∀ p ∈ pins',s.heap.get? p.1 = some p.2 ∧ H p.1 = none ∧ p.1 ≠ X.env.locals ∧ p.1 ∉ X.fs ∧ ∀ v,p.2.data ≠ .cell v) : Inv X pins' σ H s :=
 ⟨I.ok,I.os,I.bare,I.base,I.loc,I.cell,I.free,I.freeC,fun p hp=>(List.mem_append.mp hp).elim (fun z=>I.pin p (List.mem_append_left _ z)) (h p),I.hok,I.len⟩
theorem aP9 {N : List Str} (hN : N.Nodup) {i j : Nat} {x : Str} (a : N[i]? = some x) (b : N[j]? = some x) : i = j:=by
 obtain ⟨h1,e1⟩:=List.getElem?_eq_some_iff.mp a
 obtain ⟨h2,e2⟩:=List.getElem?_eq_some_iff.mp b
 exact (List.getElem_inj hN).mp (e1.trans e2.symm)
theorem aD5 {M : Model} {A : Around} {E : Value → Shared → Prop} {i : Nat} {x : Str} {v : V} {u : Value} {Q : Unit → Shared → Prop} (I : Inv X pins σ H s) (hN : X.N.Nodup) (hi : X.N[i]? = some x) (hx : Loc X.env.scope x) (r : K8 v u)
  (h : ∀ s',Inv X pins (σ.set i (some v)) H s' → (∃ a,Heap.SameBut a s.heap s'.heap ∧ (a = X.env.locals ∨ X.env.cells.lookup x = some a)) → Q () s') (hf : X.fn x = true ∨ X.env.scope.names.lookup x = some .local:=by first | exact .inl rfl | exact .inr rfl | assumption) : wpAny M A (storeName X.env x u) Q E s:=by
 obtain ⟨m,hn,hl⟩:=id I.loc
 have hcls : (X.env.scope.kind == .class || (X.env.scope.kind == .module && X.env.locals != X.env.globals)) = false:=by rw [I.ok.kind]; rfl
 have hiσ : i < σ.length:=by rw [I.len]; exact (List.getElem?_eq_some_iff.mp hi).1
 have cne:=I.cne
 have tracked : ∀ {a : Addr} {h' : Heap},(∃ o,s.heap.get? a = some o ∧ H a = none) → Heap.SameBut a s.heap h' → HOk X.prog X.w H h':=fun {a h'} ha hs b ob e=>by
  obtain ⟨_,_,hfree⟩:=ha
  refine (I.hok b ob e).stay (fun c w' hc q=>(hs.2 c ?_).trans q) (fun _ q=>q) fun _ _ q=>q
  rintro rfl
  rcases hc with rfl | hc
  ·rw [hfree] at e; cases e
  ·rw [hfree] at hc; cases hc
 rcases hx with hk | hk
 ·refine wpAny_storeName_local hk hn (fun h' hn' hs=>?_) hcls
  obtain ⟨oL,_,_,hoL,_⟩:=id hn
  refine h _ ⟨I.ok,I.os,I.bare,⟨fun b o e n hb hx=>?_,fun b o e n hb hx=>?_,I.base.free,fun b o e hx=>?_,I.base.tups,I.base.frzs,I.base.tbls⟩,⟨_,hn',fun j y v' e1 e2 e3=>?_⟩,fun y c e=>?_,I.free,I.freeC,fun p hp=>?_,tracked ⟨oL,hoL,I.free⟩ hs,by simpa using I.len⟩ ⟨_,hs,.inl rfl⟩
  ·exact (hs.2 b (Nat.ne_of_lt (Nat.lt_of_lt_of_le (Heap.lt_size e) I.ok.above))).trans (I.base.keep b o e n hb hx)
  ·obtain ⟨sl,e1⟩:=I.base.slot b o e n hb hx
   exact ⟨sl,(hs.2 b (Nat.ne_of_lt (Nat.lt_of_lt_of_le (Heap.lt_size e) I.ok.above))).trans e1⟩
  ·obtain ⟨o',e1⟩:=I.base.there b o e hx
   exact ⟨o',(hs.2 b (Nat.ne_of_lt (Nat.lt_of_lt_of_le (Heap.lt_size e) I.ok.above))).trans e1⟩
  ·by_cases hj : j = i
   ·subst hj
    rw [hi] at e1; cases e1
    rw [List.getElem?_set_self hiσ] at e2
    cases e2
    exact ⟨u,r,.inl ⟨hk,by simp⟩⟩
   ·rw [List.getElem?_set_ne (Ne.symm hj)] at e2
    obtain ⟨u',r',q⟩:=hl j y v' e1 e2 e3
    refine ⟨u',r',?_⟩
    rcases q with ⟨k,e⟩ | ⟨k,c,e,z⟩
    ·refine .inl ⟨k,?_⟩
     have : y ≠ x:=fun e=>hj (aP9 hN e1 (e ▸ hi))
     simp [this,e]
    ·exact .inr ⟨k,c,e,z.sameBut hs (cne y c e)⟩
  ·obtain ⟨w',z⟩:=I.cell y c e
   exact ⟨w',z.sameBut hs (cne y c e)⟩
  ·obtain ⟨e,n,ne,nf,d⟩:=I.pin p hp
   exact ⟨(hs.2 p.1 ne).trans e,n,ne,nf,d⟩
 ·have hfn : X.fn x = true:=by
   rcases hf with z | z
   ·exact z
   ·rw [z] at hk; cases hk
  obtain ⟨c,hc⟩:=I.ok.has x (.inl hk)
  obtain ⟨w',z⟩:=I.cell x c hc
  refine wpAny_storeName_cell I.ok.kind hk hc z (fun h' hc' hs=>?_)
  obtain ⟨oc,hoc,hocd⟩:=id z
  refine h { s with heap:=h' } ⟨I.ok,I.os,I.bare,⟨fun b o e n hb hx=>?_,fun b o e n hb hx=>?_,I.base.free,fun b o e hx=>?_,I.base.tups,I.base.frzs,I.base.tbls⟩,⟨m,hn.sameBut hs (Ne.symm (cne x c hc)),fun j y v' e1 e2 e3=>?_⟩,fun y c' e=>?_,I.free,I.freeC,fun p hp=>?_,tracked ⟨oc,hoc,I.freeC x c hc⟩ hs,by simpa using I.len⟩ ⟨c,hs,.inr hc⟩
  ·exact (hs.2 b (Nat.ne_of_lt (Nat.lt_of_lt_of_le (Heap.lt_size e) (I.ok.cab x c hfn hc)))).trans (I.base.keep b o e n hb hx)
  ·obtain ⟨sl,e1⟩:=I.base.slot b o e n hb hx
   exact ⟨sl,(hs.2 b (Nat.ne_of_lt (Nat.lt_of_lt_of_le (Heap.lt_size e) (I.ok.cab x c hfn hc)))).trans e1⟩
  ·obtain ⟨o',e1⟩:=I.base.there b o e hx
   exact ⟨o',(hs.2 b (Nat.ne_of_lt (Nat.lt_of_lt_of_le (Heap.lt_size e) (I.ok.cab x c hfn hc)))).trans e1⟩
  ·by_cases hj : j = i
   ·subst hj
    rw [hi] at e1; cases e1
    rw [List.getElem?_set_self hiσ] at e2
    cases e2
    exact ⟨u,r,.inr ⟨.inl hk,c,hc,hc'⟩⟩
   ·rw [List.getElem?_set_ne (Ne.symm hj)] at e2
    obtain ⟨u',r',q⟩:=hl j y v' e1 e2 e3
    refine ⟨u',r',?_⟩
    rcases q with q | ⟨k,c',e,z'⟩
    ·exact .inl q
    ·refine .inr ⟨k,c',e,z'.sameBut hs ?_⟩
     rintro rfl
     exact hj (aP9 hN e1 (I.ok.inj _ _ _ e hc ▸ hi))
  ·by_cases hcc : c' = c
   ·subst hcc; exact ⟨_,hc'⟩
   ·obtain ⟨w2,z2⟩:=I.cell y c' e
    exact ⟨w2,z2.sameBut hs hcc⟩
  ·obtain ⟨e,n,ne,nf,d⟩:=I.pin p hp
   refine ⟨(hs.2 p.1 ?_).trans e,n,ne,nf,d⟩
   intro q
   rw [q,hoc] at e
   have q' : oc = p.2:=Option.some.inj e
   exact d w' (by rw [← q']; exact hocd)
theorem am7 {M : Model} {A : Around} {E : Value → Shared → Prop} {i : Nat} {x : Str} {v : V} {u : Value} {Q : Unit → Shared → Prop} (I : Inv X pins σ H s) (hN : X.N.Nodup) (hi : X.N[i]? = some x) (hx : Loc X.env.scope x) (r : K8 v u)
  (h : ∀ s',Inv X pins (σ.set i (some v)) H s' → Q () s') (hf : X.fn x = true ∨ X.env.scope.names.lookup x = some .local:=by first | exact .inl rfl | exact .inr rfl | assumption) : wpAny M A (storeName X.env x u) Q E s :=
 aD5 I hN hi hx r (fun s' I' _=>h s' I') hf
theorem Inv.call' {s' : Shared} {ch : List Addr} (I : Inv X pins σ H s) (ho : s'.os = s.os) (u : Un (frs X.stack) ch H H' s.heap s'.heap) (hok : HOk X.prog X.w H' s'.heap) (hg : AllBare s'.gens)
  (hch : ∀ b ∈ ch,(b ∈ X.ex ∨ X.s₀.heap.objs.size ≤ b) ∧ b ≠ X.env.locals ∧ (∀ x c,X.env.cells.lookup x = some c → c ≠ b) ∧ ∀ p ∈ X.pn ++ pins,p.1 ≠ b) : Inv X pins σ H' s':=by
 obtain ⟨h',g',d',t',o'⟩:=s'
 have e : o' = s.os:=ho
 subst e
 exact I.call (g':=g') (t':=t') (d':=d') u hok hg hch
end
noncomputable abbrev XK:=Value → Option Addr → Hp → Prop
noncomputable abbrev St:=List (Option V)
noncomputable abbrev VK:=V → Hp → Prop
noncomputable abbrev TE:=St → Hp → VK → Prop
noncomputable abbrev TT:=St → Hp → (Bool → Hp → Prop) → Prop
noncomputable abbrev TA:=St → Hp → (List V → Hp → Prop) → Prop
structure Ends where
 nx : St → Hp → Prop
 rt : VK
 bk : St → Hp → Prop:=fun _ _=>False
 ct : St → Hp → Prop:=fun _ _=>False
noncomputable abbrev TS:=Ends → St → Hp → Prop
noncomputable def EP (X : Cx) (pins : List (Addr × Obj)) (σ : St) (Q : VK) (u : Value) (s' : Shared) : Prop:=∃ v H',Inv X pins σ H' s' ∧ K8 v u ∧ Q v H'
noncomputable def TP (X : Cx) (pins : List (Addr × Obj)) (σ : St) (Q : Bool → Hp → Prop) (b : Bool) (s' : Shared) : Prop:=∃ H',Inv X pins σ H' s' ∧ Q b H'
noncomputable def AP (X : Cx) (pins : List (Addr × Obj)) (σ : St) (Q : List V → Hp → Prop) (us : List Value) (s' : Shared) : Prop:=∃ vs H',Inv X pins σ H' s' ∧ F6 vs us ∧ Q vs H'
noncomputable def SP (X : Cx) (pins : List (Addr × Obj)) (D : Ends) (f : Flow) (s' : Shared) : Prop :=
 match f with
 | .next=>∃ σ' H',Inv X pins σ' H' s' ∧ D.nx σ' H'
 | .brk=>∃ σ' H',Inv X pins σ' H' s' ∧ D.bk σ' H'
 | .cont=>∃ σ' H',Inv X pins σ' H' s' ∧ D.ct σ' H'
 | .ret u=>∃ v σ' H',Inv X pins σ' H' s' ∧ K8 v u ∧ D.rt v H'
noncomputable def PE (X : Cx) (e : Expr) (t : TE) : Prop :=
 ∀ (pins : List (Addr × Obj)) (s : Shared) (σ : St) (H : Hp) (Q : VK),Inv X pins σ H s → t σ H Q → wpAny (model X.prog X.w) X.A (eval e X.env) (EP X pins σ Q) X.xe s
noncomputable def PT (X : Cx) (e : Expr) (t : TT) : Prop :=
 ∀ (pins : List (Addr × Obj)) (s : Shared) (σ : St) (H : Hp) (Q : Bool → Hp → Prop),Inv X pins σ H s → t σ H Q → wpAny (model X.prog X.w) X.A (isTrue e X.env (eval e X.env)) (TP X pins σ Q) X.xe s
noncomputable def PW (X : Cx) (e : Expr) (t : TT) : Prop :=
 ∀ (whole : Sem Value) (pins : List (Addr × Obj)) (s : Shared) (σ : St) (H : Hp) (Q : Bool → Hp → Prop),Inv X pins σ H s → t σ H Q → wpAny (model X.prog X.w) X.A (isTrue e X.env whole) (TP X pins σ Q) X.xe s
theorem PW.pt {X : Cx} {e : Expr} {t : TT} (h : PW X e t) : PT X e t:=h _
noncomputable def PA (X : Cx) (es : List Expr) (t : TA) : Prop :=
 ∀ (pos : Pos) (pins : List (Addr × Obj)) (s : Shared) (σ : St) (H : Hp) (Q : List V → Hp → Prop),Inv X pins σ H s → t σ H Q → wpAny (model X.prog X.w) X.A (spliced (backTo pos (starEach es X.env))) (AP X pins σ Q) X.xe s
noncomputable def PS (X : Cx) (st : Stmt) (t : TS) : Prop :=
 ∀ (pins : List (Addr × Obj)) (s : Shared) (σ : St) (H : Hp) (D : Ends),Inv X pins σ H s → t D σ H → wpAny (model X.prog X.w) X.A (exec st X.env) (SP X pins D) X.xe s
noncomputable def PSs (X : Cx) (st : List Stmt) (t : TS) : Prop :=
 ∀ (pins : List (Addr × Obj)) (s : Shared) (σ : St) (H : Hp) (D : Ends),Inv X pins σ H s → t D σ H → wpAny (model X.prog X.w) X.A (execs st X.env) (SP X pins D) X.xe s
theorem thn {α : Type} {t : Sem α} {Q Q' : α → Shared → Prop} {M : Model} {A : Around} {E : Value → Shared → Prop} {s : Shared} (h : wpAny M A t Q E s) (hQ : ∀ a s,Q a s → Q' a s) : wpAny M A t Q' E s:=wpAny_mono h hQ fun _ _ x=>x
end L2
namespace L2
open PySem PySem.Spec PyProof.Rows
section
variable {X : Cx}
theorem bin {a b : Expr} {ta tb : TE} (ha : PE X a ta) (hb : PE X b tb) {pins : List (Addr × Obj)} {s : Shared} {σ : St} {H : Hp} {R : V → V → Hp → Prop} (I : Inv X pins σ H s) (h : ta σ H fun x H1=>tb σ H1 fun y H2=>R x y H2)
  {α : Type} {Q : α → Shared → Prop} {f : Value → Value → Sem α}
  (hf : ∀ v u s2 x y H2,Inv X pins σ H2 s2 → K8 x v → K8 y u → R x y H2 → wpAny (model X.prog X.w) X.A (f v u) Q X.xe s2) :
  wpAny (model X.prog X.w) X.A (eval a X.env) (fun v s₁=>wpAny (model X.prog X.w) X.A (eval b X.env) (fun u s₂=>wpAny (model X.prog X.w) X.A (f v u) Q X.xe s₂) X.xe s₁) X.xe s:=by
 refine thn (ha pins s σ H _ I h) fun v s1 ⟨x,H1,I1,r1,q1⟩=>?_
 refine thn (hb pins s1 σ H1 _ I1 q1) fun u s2 ⟨y,H2,I2,r2,q2⟩=>?_
 exact hf v u s2 x y H2 I2 r1 r2 q2
noncomputable def cn7 (i : Nat) : TE:=fun σ H Q=>∃ v,σ[i]? = some (some v) ∧ Q v H
noncomputable def tC (v : V) : TE:=fun _ H Q=>Q v H
theorem ak8 {i : Nat} {x : Str} {pos : Pos} (hN : X.N[i]? = some x) (hv : Vis X.env.scope x) (hd : (x == ("__debug__" : Str)) = false:=by decide) (hcd : (x == ("__classdict__" : Str)) = false:=by decide) : PE X (.Name x pos) (cn7 i):=by
 intro pins s σ H Q I h
 obtain ⟨v,e,h⟩:=h
 obtain ⟨m,hn,hl⟩:=I.loc
 obtain ⟨u,r,l⟩:=hl i x v hN e hv
 have fin : EP X pins σ Q u s:=⟨v,H,I,r,h⟩
 rcases l with ⟨hk,hm⟩ | ⟨hk,c,hc,hcell⟩
 ·exact wpAny_Name (wpAny_loadName_local I.ok.kind hk hn hm fin) hd
 ·rcases hk with hk | hk
  ·exact wpAny_Name (wpAny_loadName_cell I.ok.kind hk hc hcell fin) hd
  ·exact wpAny_Name (wpAny_loadName_free I.ok.kind hk hc hcell fin hcd) hd
theorem cc1 {i j pos} : PE X (.Constant (.int i) j pos) (tC (.int i)):=fun _ _ _ H _ I h=>wpAny_Constant_int ⟨.int i,H,I.tok _,⟨_,rfl⟩,h⟩
theorem cp8 {b j pos} : PE X (.Constant (.bool b) j pos) (tC (.bl b)):=fun _ _ _ H _ I h=>Constant_bool ⟨.bl b,H,I,rfl,h⟩
theorem cb9 {j pos} : PE X (.Constant .none j pos) (tC .non):=fun _ _ _ H _ I h=>Constant_none ⟨.non,H,I,rfl,h⟩
theorem cb5 {x j pos} : PE X (.Constant (.str x) j pos) (tC (.str x)):=fun _ _ _ H _ I h=>Calls.Constant_str ⟨.str x,H,I.tok _,⟨_,rfl⟩,h⟩
noncomputable def Gl (X : Cx) (x : Str) : Prop:=X.env.kindOf x = some .globalImplicit
theorem aJ8 {E : Value → Shared → Prop} {pins : List (Addr × Obj)} {s : Shared} {σ : St} {H : Hp} {x : Str} {u : Value} {pos : Pos} {Q : Value → Shared → Prop} (I : Inv X pins σ H s) (hg : Gl X x) (hm : X.mg x = some u) (h : Q u s)
  (hd : (x == ("__debug__" : Str)) = false:=by decide) : wpAny (model X.prog X.w) X.A (eval (.Name x pos) X.env) Q E s :=
 Calls.Name_function_global I.ok.kind hg (Calls.loadGlobal_global (by rw [I.ok.glob]; exact I.mod.glob.keeps I.bk) hm h) hd
theorem ae1 {E : Value → Shared → Prop} {pins : List (Addr × Obj)} {s : Shared} {σ : St} {H : Hp} {x : Str} {u : Value} {pos : Pos} {Q : Value → Shared → Prop} (I : Inv X pins σ H s) (hg : Gl X x) (hm : X.mg x = none) (hv : bootBuiltins x = some u) (h : Q u s)
  (hn : x ≠ "__name__" := by decide) (hd : (x == ("__debug__" : Str)) = false:=by decide) : wpAny (model X.prog X.w) X.A (eval (.Name x pos) X.env) Q E s:=by
 obtain ⟨mb,h1,h2⟩:=I.mod.blt
 exact Calls.Name_function_global I.ok.kind hg (Calls.loadGlobal_builtin (by rw [I.ok.glob]; exact I.mod.glob.keeps I.bk) hm (by rw [I.ok.blt]; exact h1.keeps I.bk) ((h2 x hn).trans hv) h) hd
theorem bJ0 {x : Str} {v : V} {u : Value} {pos : Pos} (hg : Gl X x) (hm : X.mg x = some u) (r : K8 v u) (hd : (x == ("__debug__" : Str)) = false:=by decide) : PE X (.Name x pos) (tC v) :=
 fun _ _ _ H _ I h=>aJ8 I hg hm ⟨v,H,I,r,h⟩ hd
theorem bJ3 {x : Str} {v : V} {u : Value} {pos : Pos} (hg : Gl X x) (hm : X.mg x = none) (hv : bootBuiltins x = some u) (r : K8 v u) (hn : x ≠ "__name__" := by decide) (hd : (x == ("__debug__" : Str)) = false:=by decide) : PE X (.Name x pos) (tC v) :=
 fun _ _ _ H _ I h=>ae1 I hg hm hv ⟨v,H,I,r,h⟩ hn hd
variable {a b : Expr} {ta tb : TE} {pos : Pos}
variable {tA tB' : TT} {T2 : List Expr}
noncomputable def cv6 (t u : TT) : TT:=fun σ H Q=>t σ H fun c H1=>if c = true then u σ H1 Q else Q false H1
noncomputable def tOr (t u : TT) : TT:=fun σ H Q=>t σ H fun c H1=>if c = true then Q true H1 else u σ H1 Q
noncomputable def cv2 (t : TT) : TT:=fun σ H Q=>t σ H fun c H1=>Q (!c) H1
theorem bH8 (ha : PT X a tA) : PW X (.BoolOp .And [a] pos) tA:=by
 intro wh pins s σ H Q I h
 refine isTrue_and (thn (ha pins s σ H Q I h) fun c s1 e=>?_)
 cases c with
 | true=>exact isTrue_and_nil e
 | false=>exact e
theorem ca5 (ha : PT X a tA) : PW X (.BoolOp .Or [a] pos) tA:=by
 intro wh pins s σ H Q I h
 refine isTrue_or (thn (ha pins s σ H Q I h) fun c s1 e=>?_)
 cases c with
 | false=>exact isTrue_or_nil e
 | true=>exact e
theorem bv5 (ha : PT X a tA) (hb : PW X (.BoolOp .And (b :: T2) pos) tB') : PW X (.BoolOp .And (a :: b :: T2) pos) (cv6 tA tB'):=by
 intro wh pins s σ H Q I h
 refine isTrue_and (thn (ha pins s σ H _ I h) fun c s1 ⟨H1,I1,q1⟩=>?_)
 cases c with
 | true=>exact hb wh pins s1 σ H1 Q I1 q1
 | false=>exact ⟨H1,I1,q1⟩
theorem bR7 (ha : PT X a tA) (hb : PW X (.BoolOp .Or (b :: T2) pos) tB') : PW X (.BoolOp .Or (a :: b :: T2) pos) (tOr tA tB'):=by
 intro wh pins s σ H Q I h
 refine isTrue_or (thn (ha pins s σ H _ I h) fun c s1 ⟨H1,I1,q1⟩=>?_)
 cases c with
 | true=>exact ⟨H1,I1,q1⟩
 | false=>exact hb wh pins s1 σ H1 Q I1 q1
theorem ca6 (ha : PT X a tA) : PT X (.UnaryOp .Not a pos) (cv2 tA):=by
 intro pins s σ H Q I h
 exact isTrue_not (ha pins s σ H (fun c H1=>Q (!c) H1) I h)
noncomputable def co5 (ta tb : TE) : TE:=fun σ H Q=>ta σ H fun x H1=>∃ c,x = .bl c ∧ if c = true then tb σ H1 Q else Q (.bl false) H1
noncomputable def cv1 (ta tb : TE) : TE:=fun σ H Q=>ta σ H fun x H1=>∃ c,x = .bl c ∧ if c = true then Q (.bl true) H1 else tb σ H1 Q
noncomputable def cn9 (ta : TE) : TE:=fun σ H Q=>ta σ H fun x H1=>∃ c,x = .bl c ∧ Q (.bl (!c)) H1
theorem cb7 {op} {t : TE} (h : PE X a t) : PE X (.BoolOp op [a] pos) t:=fun pins s σ H Q I hw=>BoolOp_one (h pins s σ H Q I hw)
theorem bw5 (ha : PE X a ta) (hb : PE X (.BoolOp .And (b :: T2) pos) tb) : PE X (.BoolOp .And (a :: b :: T2) pos) (co5 ta tb):=by
 intro pins s σ H Q I h
 refine BoolOp_and (thn (ha pins s σ H _ I h) fun v s1 ⟨x,H1,I1,r1,q1⟩=>?_)
 obtain ⟨c,rfl,q1⟩:=q1
 cases r1
 refine wpAny_truthy_bool ?_
 cases c with
 | true=>exact hb pins s1 σ H1 Q I1 q1
 | false=>exact ⟨.bl false,H1,I1,rfl,q1⟩
theorem bS0 (ha : PE X a ta) (hb : PE X (.BoolOp .Or (b :: T2) pos) tb) : PE X (.BoolOp .Or (a :: b :: T2) pos) (cv1 ta tb):=by
 intro pins s σ H Q I h
 refine BoolOp_or (thn (ha pins s σ H _ I h) fun v s1 ⟨x,H1,I1,r1,q1⟩=>?_)
 obtain ⟨c,rfl,q1⟩:=q1
 cases r1
 refine wpAny_truthy_bool ?_
 cases c with
 | false=>exact hb pins s1 σ H1 Q I1 q1
 | true=>exact ⟨.bl true,H1,I1,rfl,q1⟩
theorem cb8 (ha : PE X a ta) : PE X (.UnaryOp .Not a pos) (cn9 ta):=by
 intro pins s σ H Q I h
 refine UnaryOp_ (thn (ha pins s σ H _ I h) fun v s1 ⟨x,H1,I1,r1,q1⟩=>?_)
 obtain ⟨c,rfl,q1⟩:=q1
 cases r1
 exact not_of (wpAny_truthy_bool ⟨.bl (!c),H1,I1,rfl,q1⟩)
noncomputable def tIf (t : TT) (ta tb : TE) : TE:=fun σ H Q=>t σ H fun c H1=>if c = true then ta σ H1 Q else tb σ H1 Q
theorem aP0 {c : Expr} (hc : PT X c tA) (ha : PE X a ta) (hb : PE X b tb) : PE X (.IfExp c a b pos) (tIf tA ta tb):=by
 intro pins s σ H Q I h
 refine wpAny_IfExp (thn (hc pins s σ H _ I h) fun d s1 ⟨H1,I1,q1⟩=>?_)
 cases d with
 | true=>exact ha pins s1 σ H1 Q I1 q1
 | false=>exact hb pins s1 σ H1 Q I1 q1
end
end L2
namespace L2
open PySem PySem.Spec PyProof.Rows
noncomputable def SqL (K : PySem.W.Frag) (H : Hp) (a : Addr) (xs : List V) : Prop :=
 Rd H a (.lst xs) ∨
  ∃ (o : Obj) (its : Array Value) (n : Nat),K.lookup a = some o ∧ o.cls = .type "list" ∧ o.dict = none ∧ o.data = .seq its n ∧ its.size ≤ sizeLine ∧ F6 xs its.toList
noncomputable def SqT (K : PySem.W.Frag) (H : Hp) (a : Addr) (xs : List V) : Prop :=
 Rd H a (.tup xs) ∨
  ∃ (o : Obj) (its : Array Value) (n : Nat),K.lookup a = some o ∧ o.cls = .type "tuple" ∧ o.data = .seq its n ∧ its.size ≤ sizeLine ∧ F6 xs its.toList
noncomputable def cx5 : Value → Option V
 | .none=>some .non
 | .bool b=>some (.bl b)
 | .int i _=>some (.int i)
 | .str x _=>some (.str x)
 | .bytes b _=>some (.byt b)
 | .float b _=>some (.flt b)
 | .ref a=>some (.ref a)
 | .type n=>some (.ty n)
 | _=>none
theorem K8.abs {x : V} {u : Value} (r : K8 x u) : cx5 u = some x:=by
 cases x with
 | non=>cases r; rfl
 | bl _=>cases r; rfl
 | int _=>obtain ⟨t,rfl⟩:=r; rfl
 | str _=>obtain ⟨t,rfl⟩:=r; rfl
 | byt _=>obtain ⟨t,rfl⟩:=r; rfl
 | flt _=>obtain ⟨t,rfl⟩:=r; rfl
 | ref _=>cases r; rfl
 | ty _=>cases r; rfl
theorem K8.inj {x y : V} {u : Value} (r : K8 x u) (q : K8 y u) : x = y:=Option.some.inj (r.abs.symm.trans q.abs)
theorem F6.inj : ∀ {xs ys : List V} {us : List Value},F6 xs us → F6 ys us → xs = ys
 | _,_,_,.nil,.nil=>rfl
 | _,_,_,.cons r t,.cons r' t'=>by rw [r.inj r',F6.inj t t']
section
variable {X : Cx} {pins : List (Addr × Obj)} {σ : St} {H : Hp} {s : Shared} {a : Addr} {xs ys : List V}
theorem SqL.of {K : PySem.W.Frag} (h : H a = some (.lst xs)) : SqL K H a xs:=.inl (.inl h)
theorem SqT.of {K : PySem.W.Frag} (h : H a = some (.tup xs)) : SqT K H a xs:=.inl (.inl h)
theorem Inv.list (I : Inv X pins σ H s) (h : SqL X.K H a xs) : ∃ its : List Value,F6 xs its ∧ PlainL s.heap a its.toArray ∧ xs.length ≤ sizeLine:=by
 rcases h with h | ⟨o,its,n,hk,hc,hd,hs,hz,r⟩
 ·obtain ⟨z,its,n,r,e⟩:=h.ok I.hok
  exact ⟨its,r,⟨_,n,e,rfl,rfl,rfl⟩,z⟩
 ·refine ⟨its.toList,r,⟨o,n,I.kIn a o hk,hc,hd,by simpa using hs⟩,?_⟩
  have e:=r.length
  simp only [Array.length_toList] at e
  omega
theorem Inv.tuple (I : Inv X pins σ H s) (h : SqT X.K H a xs) : ∃ its : List Value,F6 xs its ∧ IsTup s.heap a its.toArray ∧ xs.length ≤ sizeLine:=by
 rcases h with h | ⟨o,its,n,hk,hc,hs,hz,r⟩
 ·obtain ⟨z,its,r,p⟩:=h.ok I.hok
  exact ⟨its,r,p,z⟩
 ·refine ⟨its.toList,r,⟨o,I.kIn a o hk,hc,n,by simpa using hs⟩,?_⟩
  have e:=r.length
  simp only [Array.length_toList] at e
  omega
theorem Inv.list_inj (I : Inv X pins σ H s) (h : SqL X.K H a xs) (h' : SqL X.K H a ys) : xs = ys:=by
 obtain ⟨its,r,⟨o,n,e,_,_,d⟩,_⟩:=I.list h
 obtain ⟨its',r',⟨o',n',e',_,_,d'⟩,_⟩:=I.list h'
 rw [e] at e'; cases e'
 rw [d] at d'
 injection d' with d1 _
 have : its = its':=by simpa using congrArg Array.toList d1
 subst this
 exact r.inj r'
theorem Inv.tuple_inj (I : Inv X pins σ H s) (h : SqT X.K H a xs) (h' : SqT X.K H a ys) : xs = ys:=by
 obtain ⟨its,r,⟨o,e,_,n,d⟩,_⟩:=I.tuple h
 obtain ⟨its',r',⟨o',e',_,n',d'⟩,_⟩:=I.tuple h'
 rw [e] at e'; cases e'
 rw [d] at d'
 injection d' with d1 _
 have : its = its':=by simpa using congrArg Array.toList d1
 subst this
 exact r.inj r'
end
noncomputable abbrev Cx.wish (X : Cx) (E : Value → Shared → Prop) : Cx:={ X with xe:=E }
noncomputable abbrev Cx.nox (X : Cx) : Cx:=X.wish fun _ _=>False
theorem Cx.Ok.wish {X : Cx} (ok : X.Ok) (E : Value → Shared → Prop) : (X.wish E).Ok :=
 ⟨ok.mod,ok.kind,ok.glob,ok.blt,ok.above,ok.inj,ok.has,ok.cab,ok.hd,ok.frames,ok.stk,ok.exf,ok.bs,ok.bsz,ok.noex,ok.exfs,ok.funs,ok.frf⟩
theorem Cx.Ok.unwish {X : Cx} {E : Value → Shared → Prop} (ok : (X.wish E).Ok) : X.Ok :=
 ⟨ok.mod,ok.kind,ok.glob,ok.blt,ok.above,ok.inj,ok.has,ok.cab,ok.hd,ok.frames,ok.stk,ok.exf,ok.bs,ok.bsz,ok.noex,ok.exfs,ok.funs,ok.frf⟩
section
variable {X : Cx} {pins : List (Addr × Obj)} {σ : St} {H : Hp} {s : Shared} {E : Value → Shared → Prop}
theorem Inv.wish (I : Inv X pins σ H s) (E : Value → Shared → Prop) : Inv (X.wish E) pins σ H s:=⟨I.ok.wish E,I.os,I.bare,I.base,I.loc,I.cell,I.free,I.freeC,I.pin,I.hok,I.len⟩
theorem Inv.unwish (I : Inv (X.wish E) pins σ H s) : Inv X pins σ H s:=⟨I.ok.unwish,I.os,I.bare,I.base,I.loc,I.cell,I.free,I.freeC,I.pin,I.hok,I.len⟩
theorem SP.unwish {D : Ends} {f : Flow} {s' : Shared} (h : SP (X.wish E) pins D f s') : SP X pins D f s':=by
 cases f with
 | next=>obtain ⟨σ',H',I,q⟩:=h; exact ⟨σ',H',I.unwish,q⟩
 | brk=>obtain ⟨σ',H',I,q⟩:=h; exact ⟨σ',H',I.unwish,q⟩
 | cont=>obtain ⟨σ',H',I,q⟩:=h; exact ⟨σ',H',I.unwish,q⟩
 | ret u=>obtain ⟨v,σ',H',I,r,q⟩:=h; exact ⟨v,σ',H',I.unwish,r,q⟩
theorem PSs.nox {st : List Stmt} {t : TS} (h : PSs X.nox st t) : PSs X st t:=fun pins s σ H D I hw =>
 wpAny_mono (h pins s σ H D (I.wish _) hw) (fun _ _ q=>q.unwish) fun _ _ z=>False.elim z
end
section
variable {X : Cx} {st : Stmt} {T2 : List Stmt} {t u : TS} {e : Expr} {te : TE} {pos : Pos}
noncomputable def bR3 : TS:=fun D σ H=>D.nx σ H
noncomputable def cu8 (t u : TS) : TS:=fun D σ H=>t { D with nx:=u D } σ H
theorem bI3 : PSs X [] bR3:=fun _ _ σ H _ I h=>wpAny_execs_nil ⟨σ,H,I,h⟩
theorem an3 (h1 : PS X st t) (h2 : PSs X T2 u) : PSs X (st :: T2) (cu8 t u):=by
 intro pins s σ H D I h
 refine wpAny_execs_cons (thn (h1 pins s σ H { D with nx:=u D } I h) fun f s1 q=>?_)
 cases f with
 | next =>
  obtain ⟨σ',H',I',q⟩:=q
  exact h2 pins s1 σ' H' D I' q
 | ret v=>exact q
 | brk=>exact q
 | cont=>exact q
theorem bI2 (h1 : PS X st t) : PSs X [st] t:=by
 intro pins s σ H D I h
 refine wpAny_execs_cons (thn (h1 pins s σ H D I h) fun f s1 q=>?_)
 cases f with
 | next=>exact wpAny_execs_nil q
 | ret v=>exact q
 | brk=>exact q
 | cont=>exact q
noncomputable def bZ6 : TS:=fun D σ H=>D.bk σ H
noncomputable def co2 : TS:=fun D σ H=>D.ct σ H
theorem bI4 : PS X (.Pass pos) bR3:=fun _ _ σ H _ I h=>wpAny_Pass ⟨σ,H,I,h⟩
theorem bv9 : PS X (.Break pos) bZ6:=fun _ _ σ H _ I h=>wpAny_Break ⟨σ,H,I,h⟩
theorem aO8 : PS X (.Continue pos) co2:=fun _ _ σ H _ I h=>wpAny_Continue ⟨σ,H,I,h⟩
theorem Inv.quiet {pins : List (Addr × Obj)} {σ : St} {H : Hp} {s : Shared} (I : Inv X pins σ H s) : interactive X.env = false:=by simp [interactive,I.ok.kind]
noncomputable def co1 (te : TE) : TS:=fun D σ H=>te σ H fun _ H1=>D.nx σ H1
theorem aI3 (he : PE X e te) (hs : swapsWith e none pos.line X.env = pure false:=by rfl) : PS X (.Expr e pos) (co1 te):=by
 intro pins s σ H D I h
 exact wpAny_Expr_any (thn (he pins s σ H _ I h) fun v s1 ⟨x,H1,I1,r1,q1⟩=>⟨σ,H1,I1,q1⟩) I.quiet hs
noncomputable def cu9 (te : TE) : TS:=fun D σ H=>te σ H D.rt
theorem ca8 (he : PE X e te) : PS X (.Return (some e) pos) (cu9 te):=by
 intro pins s σ H D I h
 exact wpAny_Return_some (thn (he pins s σ H _ I h) fun v s1 ⟨x,H1,I1,r1,q1⟩=>⟨x,σ,H1,I1,r1,q1⟩)
noncomputable def cv4 (c : TT) (t u : TS) : TS:=fun D σ H=>c σ H fun b H1=>if b = true then t D σ H1 else u D σ H1
theorem bR8 {c : Expr} {a b : List Stmt} {tc : TT} (hc : PT X c tc) (ha : PSs X a t) (hb : PSs X b u) : PS X (.If c a b pos) (cv4 tc t u):=by
 intro pins s σ H D I h
 refine wpAny_If (thn (hc pins s σ H _ I h) fun d s1 ⟨H1,I1,q1⟩=>?_)
 cases d with
 | true=>exact ha pins s1 σ H1 D I1 q1
 | false=>exact hb pins s1 σ H1 D I1 q1
noncomputable def bZ5 : TS:=fun _ _ _=>False
theorem p8 {sts : List Stmt} : PSs X sts bZ5:=fun _ _ _ _ _ _ h=>h.elim
end
noncomputable abbrev TG:=V → St → Hp → (St → Hp → Prop) → Prop
noncomputable abbrev TGs:=List V → St → Hp → (St → Hp → Prop) → Prop
noncomputable def PG (X : Cx) (target : Expr) (t : TG) : Prop :=
 ∀ (pins : List (Addr × Obj)) (s : Shared) (σ : St) (H : Hp) (v : V) (u : Value) (Q : St → Hp → Prop),Inv X pins σ H s → K8 v u → t v σ H Q →
  wpAny (model X.prog X.w) X.A (assign target X.env u) (fun _ s'=>∃ σ' H',Inv X pins σ' H' s' ∧ Q σ' H') X.xe s
noncomputable def PGs (X : Cx) (ts : List Expr) (t : TGs) : Prop :=
 ∀ (pins : List (Addr × Obj)) (s : Shared) (σ : St) (H : Hp) (vs : List V) (us : List Value) (Q : St → Hp → Prop),Inv X pins σ H s → F6 vs us → t vs σ H Q →
  wpAny (model X.prog X.w) X.A (assignInOrder ((assignEach ts X.env).map (·.2)) us) (fun _ s'=>∃ σ' H',Inv X pins σ' H' s' ∧ Q σ' H') X.xe s
section
variable {X : Cx} {pos : Pos}
noncomputable def bT1 (i : Nat) : TG:=fun v σ H Q=>Q (σ.set i (some v)) H
theorem bI9 {i : Nat} {x : Str} (hN : X.N.Nodup) (hi : X.N[i]? = some x) (hx : Loc X.env.scope x) (hf : X.fn x = true ∨ X.env.scope.names.lookup x = some .local:=by first | exact .inl rfl | exact .inr rfl | assumption) : PG X (.Name x pos) (bT1 i):=by
 intro pins s σ H v u Q I r h
 exact wpAny_assign_Name (am7 I hN hi hx r (fun s' I'=>⟨_,H,I',h⟩) hf)
noncomputable def cx3 : TGs:=fun vs σ H Q=>vs = [] ∧ Q σ H
noncomputable def ct1 (t : TG) (u : TGs) : TGs:=fun vs σ H Q=>∃ v r,vs = v :: r ∧ t v σ H fun σ' H'=>u r σ' H' Q
theorem bI8 : PGs X [] cx3:=by
 intro pins s σ H vs us Q I r h
 obtain ⟨e,h⟩:=h
 subst e
 cases r
 exact assignInOrder_nil ⟨σ,H,I,h⟩
theorem bw3 {e : Expr} {es : List Expr} {t : TG} {u : TGs} (h1 : PG X e t) (h2 : PGs X es u)
  (hs : (assignEach (e :: es) X.env).map (·.2) = assign e X.env :: (assignEach es X.env).map (·.2):=by rfl) : PGs X (e :: es) (ct1 t u):=by
 intro pins s σ H vs us Q I r h
 obtain ⟨v,vr,e1,h⟩:=h
 subst e1
 cases r with
 | cons r rr =>
  rw [hs]
  refine assignInOrder_cons (thn (h1 pins s σ H _ _ _ I r h) fun _ s1 ⟨σ1,H1,I1,q1⟩=>?_)
  exact h2 pins s1 σ1 H1 _ _ Q I1 rr q1
noncomputable def cx2 (K : PySem.W.Frag) (n : Nat) (t : TGs) : TG:=fun v σ H Q=>∃ a xs,v = .ref a ∧ SqT K H a xs ∧ xs.length = n ∧ t xs σ H Q
theorem cb3 {es : List Expr} {k : Nat} {t : TGs} {n : Nat} (hc : X.calm = true) (h : PGs X es t)
  (hn : (assignEach es X.env).length = n:=by rfl) (hst : (assignEach es X.env).findIdx? (·.1) = none:=by rfl) : PG X (.Tuple es k pos) (cx2 X.K n t):=by
 intro pins s σ H v u Q I r hw
 obtain ⟨a,xs,e1,hq,hl,hw⟩:=hw
 subst e1
 cases r
 obtain ⟨its,rv,ht,hz⟩:=I.tuple hq
 refine assign_Tuple_tuple (I.ok.hd hc) ht (by simp [hn,← hl,rv.length]) hst fun h' hx=>?_
 have I1 : Inv X pins σ H { s with heap:=h' }:=I.kept (t':=s.toks) fun b o e=>hx b o (Nat.ne_of_lt (Heap.lt_size e)) e
 exact h pins _ σ H xs _ Q I1 (by simpa using rv) hw
noncomputable def co4 (te : TE) (g : TG) : TS:=fun D σ H=>te σ H fun x H1=>g x σ H1 D.nx
theorem cb1 {tg e : Expr} {te : TE} {g : TG} (he : PE X e te) (hg : PG X tg g) (hs : swapsWithSole [tg] e pos.line X.env = pure false:=by rfl) (hw : swappedStores [tg] e X.env = pure none:=by rfl)
  (h1 : (assignEach [tg] X.env).map (·.2) = [assign tg X.env]:=by rfl) : PS X (.Assign [tg] e pos) (co4 te g):=by
 intro pins s σ H D I h
 refine wpAny_Assign_stores (thn (he pins s σ H _ I h) fun v s1 ⟨x,H1,I1,r1,q1⟩=>?_) hs hw
 rw [h1]
 exact thn (hg pins s1 σ H1 x v _ I1 r1 q1) fun _ s2 q=>q
theorem bv8 {i : Nat} {x : Str} {e : Expr} {te : TE} {pos' : Pos} (hN : X.N.Nodup) (hi : X.N[i]? = some x) (hx : Loc X.env.scope x) (he : PE X e te) (hs : swapsWith e (some (.Name x pos')) pos.line X.env = pure false:=by rfl) (hf : X.fn x = true ∨ X.env.scope.names.lookup x = some .local:=by first | exact .inl rfl | exact .inr rfl | assumption) :
  PS X (.Assign [.Name x pos'] e pos) (co4 te (bT1 i)):=by
 intro pins s σ H D I h
 refine wpAny_Assign_Name (thn (he pins s σ H _ I h) fun v s1 ⟨y,H1,I1,r1,q1⟩=>?_) hs
 exact am7 I1 hN hi hx r1 (fun s2 I2=>⟨_,H1,I2,q1⟩) hf
noncomputable def cv0 (i j : Nat) (ta : TA) : TS:=fun D σ H=>ta σ H fun vs H1=>∃ v w,vs = [v,w] ∧ D.nx ((σ.set i (some v)).set j (some w)) H1
theorem ca9 {i j : Nat} {x y : Str} {a b : Expr} {ta : TA} {px py pt : Pos} {kt k2 pt2} (hc : X.calm = true) (hN : X.N.Nodup) (hi : X.N[i]? = some x) (hj : X.N[j]? = some y) (hij : i ≠ j)
  (hx : X.env.scope.names.lookup x = some .local) (hy : X.env.scope.names.lookup y = some .local) (ha : PA X [a,b] ta)
  (hw : swappedStores [.Tuple [.Name x px,.Name y py] kt pt] (.Tuple [a,b] k2 pt2) X.env = pure (some [x,y]))
  (hs : swapsWithSole [.Tuple [.Name x px,.Name y py] kt pt] (.Tuple [a,b] k2 pt2) pos.line X.env = pure false:=by rfl) :
  PS X (.Assign [.Tuple [.Name x px,.Name y py] kt pt] (.Tuple [a,b] k2 pt2) pos) (cv0 i j ta):=by
 intro pins s σ H D I h
 rw [exec_Assign_arm]
 refine wpAny_bind (wpAny_standAt ?_)
 rw [hs]
 refine wpAny_bind (wpAny_pure ?_)
 rw [if_neg (by decide)]
 refine wpAny_bind (Tuple_ (thn (ha _ pins s σ H _ I h) fun us s1 ⟨vs,H1,I1,r1,q1⟩=>?_))
 obtain ⟨v,w,e1,q1⟩:=q1
 subst e1
 obtain ⟨u1,u2,rfl,rv,rw'⟩ : ∃ u1 u2,us = [u1,u2] ∧ K8 v u1 ∧ K8 w u2:=by
  cases r1 with
  | cons p q =>
   cases q with
   | cons p' q' =>
    cases q'
    exact ⟨_,_,rfl,p,p'⟩
 refine wpAny_newObj_type ?_ (by show 2 ≤ sizeLine; decide)
 have I2 : Inv X pins σ H1 { s1 with heap:=s1.heap.push { cls:=.type "tuple", data:=.seq [u1,u2].toArray } }:=I1.kept (t':=s1.toks) fun b o e=>Heap.get?_push_of_some _ e
 rw [hw]
 refine wpAny_bind (wpAny_pure ?_)
 show wpAny (model X.prog X.w) X.A (do rule "assign.swapped-stores"; let items ← unpackItems (.ref s1.heap.objs.size) 2 none; assignInOrder [fun v=>bindName X.env y v,fun v=>bindName X.env x v] items.reverse; pure Flow.next) _ _ _
 refine wpAny_bind (wpAny_rule (wpAny_bind (unpackItems_tuple (items:=#[u1,u2]) (I.ok.hd hc) (IsTup.new s1.heap _) fun h' hx'=>?_)))
 have I3:=I2.kept (h':=h') (t':=s1.toks) fun b o e=>hx' b o (Nat.ne_of_lt (Heap.lt_size e)) e
 show wpAny _ _ (assignInOrder [fun v=>bindName X.env y v,fun v=>bindName X.env x v] [u2,u1] >>= fun _=>pure Flow.next) _ _ _
 refine wpAny_bind (assignInOrder_cons (wpAny_bindName (am7 I3 hN hj (.inl hy) rw' (fun s2 I4=>?_) (.inr hy))))
 refine assignInOrder_cons (wpAny_bindName (am7 I4 hN hi (.inl hx) rv (fun s3 I5=>assignInOrder_nil (wpAny_pure ?_)) (.inr hx)))
 rw [List.set_comm _ _ (Ne.symm hij)] at I5
 exact ⟨_,H1,I5,q1⟩
end
section
variable {X : Cx} {pos : Pos}
noncomputable def bZ4 (c : TT) (tb : TS) : TS:=fun D σ H=>∃ W : Nat → St → Hp → Prop,(∃ m,W m σ H) ∧ ∀ m σ H,W m σ H →
 c σ H fun b H1=>if b = true then ∃ N : St → Hp → Prop,(∀ σ' H',N σ' H' → ∃ m',m' < m ∧ W m' σ' H') ∧ tb { D with nx:=N,ct:=N,bk:=D.nx } σ H1 else D.nx σ H1
theorem bv7 {c : Expr} {body : List Stmt} {tc : TT} {tb : TS} (hp : PassesOwn (model X.prog X.w) X.A X.env X.xe) (hc : PT X c tc) (hb : PSs X body tb) : PS X (.While c body [] pos) (bZ4 tc tb):=by
 intro pins s σ H D I h
 obtain ⟨W,⟨m0,w0⟩,turn⟩:=h
 refine wpAny_While (codeAny_whileLoop (fun n s'=>∃ σ' H',Inv X pins σ' H' s' ∧ W n σ' H') ?_ m0 ⟨σ,H,I,w0⟩)
 rintro n s1 ⟨σ1,H1,I1,w1⟩
 refine wpAny_passesOwn hp (thn (hc pins s1 σ1 H1 _ I1 (turn n σ1 H1 w1)) fun b s2 ⟨H2,I2,q2⟩=>?_)
 cases b with
 | true =>
  obtain ⟨N,hN,q2⟩:=q2
  rw [if_pos rfl]
  refine wpAny_passesOwn hp (thn (hb pins s2 σ1 H2 _ I2 q2) fun f s3 q3=>?_)
  cases f with
  | next =>
   obtain ⟨σ3,H3,I3,n3⟩:=q3
   obtain ⟨m',hm,w3⟩:=hN σ3 H3 n3
   exact ⟨m',hm,σ3,H3,I3,w3⟩
  | cont =>
   obtain ⟨σ3,H3,I3,n3⟩:=q3
   obtain ⟨m',hm,w3⟩:=hN σ3 H3 n3
   exact ⟨m',hm,σ3,H3,I3,w3⟩
  | brk=>exact q3
  | ret v=>exact q3
 | false =>
  rw [if_neg Bool.false_ne_true]
  exact wpAny_execs_nil ⟨σ1,H2,I2,q2⟩
end
structure It where
 go : Nat → Hp → Prop
 yld : Nat → Hp → V → Hp → Prop
 stop : Nat → Hp → Prop
noncomputable def n9 (X : Cx) (pins : List (Addr × Obj)) (H : Hp) (b : Addr) : Prop :=
 H b = none ∧ b ≠ X.env.locals ∧ b ∉ X.fs ∧ (b ∈ X.ex ∨ X.s₀.heap.objs.size ≤ b) ∧ (∀ x c,X.env.cells.lookup x = some c → c ≠ b) ∧ ∀ p ∈ X.pn ++ pins,p.1 ≠ b
theorem Inv.fpOk {X : Cx} {pins : List (Addr × Obj)} {σ : St} {H H' : Hp} {s : Shared} {b : Addr} (I : Inv X pins σ H s) (hb : s.heap.objs.size ≤ b) (hn : H' b = none) : n9 X pins H' b:=by
 refine ⟨hn,Nat.ne_of_gt (Nat.lt_of_lt_of_le I.lt hb),I.nofs hb,.inr (Nat.le_trans I.sz hb),fun x c e z=>?_,fun p hp z=>?_⟩
 ·obtain ⟨v,q⟩:=I.cell x c e
  exact absurd (Nat.lt_of_lt_of_le q.lt (by rw [z]; exact hb)) (Nat.lt_irrefl _)
 ·exact absurd (Nat.lt_of_lt_of_le (Heap.lt_size (I.pin p hp).1) (by rw [z]; exact hb)) (Nat.lt_irrefl _)
structure Turn (P : Program) (w : World) (K : PySem.W.Frag) (tg : Expr) (J : It) (fp : List Addr) (it : Addr) (tn : Nat → Heap → Prop) : Prop where
 mem : it ∈ fp
 obj : ∀ i h,tn i h → ∀ b ∈ fp,∃ o,h.get? b = some o ∧ ∀ v,o.data ≠ .cell v
 keep : ∀ i h h',tn i h → (∀ b ∈ fp,∀ o,h.get? b = some o → h'.get? b = some o) → tn i h'
 item : ∀ (X : Cx),X.prog = P → X.w = w → X.K = K → X.calm = true → ∀ (i : Nat) (pins : List (Addr × Obj)) (s : Shared) (σ : St) (H : Hp) (E : Value → Shared → Prop),Inv X pins σ H s → (∀ b ∈ fp,n9 X pins H b) → tn i s.heap → J.go i H →
  wpAny (model P w) X.A (pyNext (.ref it)) (fun r s1=>∃ u,r = some u ∧
   wpAny (model P w) X.A (letOwnedTupleGo tg (.ref it) u) (fun _ s2=>∃ x H',Inv X pins σ H' s2 ∧ K8 x u ∧ J.yld i H x H' ∧ tn (i + 1) s2.heap ∧ ∀ b ∈ fp,H' b = none) E s1) E s
 done : ∀ (X : Cx),X.prog = P → X.w = w → X.K = K → X.calm = true → ∀ (i : Nat) (pins : List (Addr × Obj)) (s : Shared) (σ : St) (H : Hp) (E : Value → Shared → Prop),Inv X pins σ H s → (∀ b ∈ fp,n9 X pins H b) → tn i s.heap → J.stop i H →
  wpAny (model P w) X.A (pyNext (.ref it)) (fun r s1=>r = none ∧ Inv X pins σ H s1) E s
 self : ∀ (A : Around) (i : Nat) (s : Shared) (Q : Value → Shared → Prop) (E : Value → Shared → Prop),tn i s.heap → Q (.ref it) s → wpAny (model P w) A (pyIter (.ref it)) Q E s
noncomputable abbrev TI:=St → Hp → (It → Hp → Prop) → Prop
noncomputable def PIE (X : Cx) (pins : List (Addr × Obj)) (σ : St) (tg : Expr) (R : It → Hp → Prop) (itv : Value) (s2 : Shared) : Prop :=
 ∃ (it : Addr) (fp : List Addr) (tn : Nat → Heap → Prop) (J : It) (H' : Hp),itv = .ref it ∧ Inv X pins σ H' s2 ∧ Turn X.prog X.w X.K tg J fp it tn ∧ tn 0 s2.heap ∧ (∀ b ∈ fp,n9 X pins H' b) ∧ R J H'
noncomputable def PI (X : Cx) (tg iter : Expr) (wi : TI) : Prop :=
 ∀ (pins : List (Addr × Obj)) (s : Shared) (σ : St) (H : Hp) (R : It → Hp → Prop),Inv X pins σ H s → wi σ H R →
  wpAny (model X.prog X.w) X.A (eval iter X.env) (fun v s1=>wpAny (model X.prog X.w) X.A (pyIter v) (PIE X pins σ tg R) X.xe s1) X.xe s
theorem aR9 {M : Model} {A : Around} {E : Value → Shared → Prop} {s : Shared} {tg : Expr} {it : Addr} {u : Value} {o : Obj} {n : String} {vs : Array Value} {Q : Unit → Shared → Prop} (ho : s.heap.get? it = some o) (hc : o.cls = .type n) (hd : o.data = .fields vs)
    (hn : ["enumerate", "zip", "dict_itemiterator", "dict_reverseitemiterator", "odict_iterator", "itertools.zip_longest", "itertools.pairwise"].contains n = false) (hQ : Q () s) : wpAny M A (letOwnedTupleGo tg (.ref it) u) Q E s:=by
  unfold letOwnedTupleGo
  cases tg <;> first
    | exact wpAny_pure hQ
    | (cases u <;> first
        | exact wpAny_pure hQ
        | (refine wpAny_bind (wpAny_load ho ?_)
           rw [hc,hd]
           show wpAny M A (if (["enumerate", "zip", "dict_itemiterator", "dict_reverseitemiterator", "odict_iterator", "itertools.zip_longest", "itertools.pairwise"].contains n && vs[0]? == some (rawInt _)) = true then _ else _) Q E s
           rw [if_neg (by intro h; rw [hn,Bool.false_and] at h; cases h)]
           exact wpAny_pure hQ))
noncomputable def Itl (K : PySem.W.Frag) (a : Addr) : It :=
 ⟨fun i H=>∃ xs x,SqL K H a xs ∧ xs[i]? = some x,fun i H x H'=>H' = H ∧ ∀ xs,SqL K H a xs → xs[i]? = some x,fun i H=>∃ xs,SqL K H a xs ∧ xs.length ≤ i⟩
noncomputable def Itt (K : PySem.W.Frag) (a : Addr) : It :=
 ⟨fun i H=>∃ xs x,SqT K H a xs ∧ xs[i]? = some x,fun i H x H'=>H' = H ∧ ∀ xs,SqT K H a xs → xs[i]? = some x,fun i H=>∃ xs,SqT K H a xs ∧ xs.length ≤ i⟩
noncomputable def Itr (lo : Int) (n : Nat) : It:=⟨fun i _=>i < n,fun i H x H'=>H' = H ∧ x = .int (lo + i),fun i _=>n ≤ i⟩
theorem bi7 {P : Program} {w : World} {K : PySem.W.Frag} {tg : Expr} (a it : Addr) : Turn P w K tg (Itl K a) [it] it (fun i h=>h.IsListIter it a i) where
 mem:=by simp
 obj:=fun i h st b hb=>by
  have e : b = it:=by simpa using hb
  subst e
  obtain ⟨o,e,c,d⟩:=st
  exact ⟨o,e,fun v z=>by rw [d] at z; cases z⟩
 keep:=fun i h h' st k=>st.at fun o e=>k it (by simp) o e
 item:=by
  intro X hP hw hK hc i pins s σ H E I hf st hg
  subst hP hw hK
  obtain ⟨xs,x,hq,hx⟩:=hg
  obtain ⟨its,rv,p,hz⟩:=I.list hq
  obtain ⟨u,hu,ru⟩:=rv.get hx
  obtain ⟨f0,f1,f2,f3,f4,f5⟩:=hf it (by simp)
  refine wpAny_pyNext_list_item st p.isList (x:=u) (by simpa using hu) fun h' st' sb=>?_
  have I1 : Inv X pins σ H { s with heap:=h' }:=I.turned (t':=s.toks) (fun b o hb e=>(sb.2 b hb).trans e) f0 f1 f3 f4 f5
  obtain ⟨o,e,c,d⟩:=id st'
  exact ⟨u,rfl,aR9 (s:={ s with heap:=h' }) e c d (by decide) ⟨x,H,I1,ru,⟨rfl,fun ys hy=>by rw [I.list_inj hy hq]; exact hx⟩,st',fun b hb=>(hf b hb).1⟩⟩
 done:=by
  intro X hP hw hK hc i pins s σ H E I hf st hg
  subst hP hw hK
  obtain ⟨xs,hq,hx⟩:=hg
  obtain ⟨its,rv,p,hz⟩:=I.list hq
  obtain ⟨f0,f1,f2,f3,f4,f5⟩:=hf it (by simp)
  have hl:=rv.length
  exact wpAny_pyNext_list_end (I.ok.hd hc) st p.isList (by simp; omega) fun h' eb=>⟨rfl,I.turned (t':=s.toks) (fun b o hb e=>eb b o hb e) f0 f1 f3 f4 f5⟩
 self:=fun _ _ _ _ _ st h=>wpAny_pyIter_listiter st h
theorem aV6 {P : Program} {w : World} {K : PySem.W.Frag} {tg : Expr} (a it : Addr) : Turn P w K tg (Itt K a) [it] it (fun i h=>h.IsTupleIter it a i) where
 mem:=by simp
 obj:=fun i h st b hb=>by
  have e : b = it:=by simpa using hb
  subst e
  obtain ⟨o,e,c,d⟩:=st
  exact ⟨o,e,fun v z=>by rw [d] at z; cases z⟩
 keep:=fun i h h' st k=>st.at fun o e=>k it (by simp) o e
 item:=by
  intro X hP hw hK hc i pins s σ H E I hf st hg
  subst hP hw hK
  obtain ⟨xs,x,hq,hx⟩:=hg
  obtain ⟨its,rv,p,hz⟩:=I.tuple hq
  obtain ⟨u,hu,ru⟩:=rv.get hx
  obtain ⟨f0,f1,f2,f3,f4,f5⟩:=hf it (by simp)
  refine wpAny_pyNext_tuple_item st (show s.heap.IsTuple a its.toArray from p) (x:=u) (by simpa using hu) fun h' st' sb=>?_
  have I1 : Inv X pins σ H { s with heap:=h' }:=I.turned (t':=s.toks) (fun b o hb e=>(sb.2 b hb).trans e) f0 f1 f3 f4 f5
  obtain ⟨o,e,c,d⟩:=id st'
  exact ⟨u,rfl,aR9 (s:={ s with heap:=h' }) e c d (by decide) ⟨x,H,I1,ru,⟨rfl,fun ys hy=>by rw [I.tuple_inj hy hq]; exact hx⟩,st',fun b hb=>(hf b hb).1⟩⟩
 done:=by
  intro X hP hw hK hc i pins s σ H E I hf st hg
  subst hP hw hK
  obtain ⟨xs,hq,hx⟩:=hg
  obtain ⟨its,rv,p,hz⟩:=I.tuple hq
  obtain ⟨f0,f1,f2,f3,f4,f5⟩:=hf it (by simp)
  have hl:=rv.length
  exact wpAny_pyNext_tuple_end (I.ok.hd hc) st (show s.heap.IsTuple a its.toArray from p) (by simp; omega) fun h' eb=>⟨rfl,I.turned (t':=s.toks) (fun b o hb e=>eb b o hb e) f0 f1 f3 f4 f5⟩
 self:=fun _ _ _ _ _ st h=>wpAny_pyIter_tupleiter st h
theorem aV7 {P : Program} {w : World} {K : PySem.W.Frag} {tg : Expr} (it : Addr) (lo : Int) (n : Nat) : Turn P w K tg (Itr lo n) [it] it (fun i h=>IsRangeIter h it (lo + (i : Nat) * 1) ((n : Int) - (i : Nat)) 1) where
 mem:=by simp
 obj:=fun i h st b hb=>by
  have e : b = it:=by simpa using hb
  subst e
  exact ⟨_,st,fun v z=>by
   have z' : Data.fields _ = Data.cell v:=z
   cases z'⟩
 keep:=fun i h h' st k=>k it (by simp) _ st
 item:=by
  intro X hP hw hK hc i pins s σ H E I hf st hg
  subst hP hw hK
  obtain ⟨f0,f1,f2,f3,f4,f5⟩:=hf it (by simp)
  have W:=Walks.range (prog:=X.prog) (w:=X.w) (I.ok.hd hc) it lo 1 n
  refine W.item i s _ _ hg st fun v h' tk hv st' kk=>?_
  obtain ⟨t,rfl⟩:=hv
  have I1 : Inv X pins σ H { s with heap:=h',toks:=tk }:=I.turned (fun b o hb e=>kk b o (by simpa using hb) e) f0 f1 f3 f4 f5
  refine ⟨_,rfl,aR9 (s:={ s with heap:=h',toks:=tk }) (n := "range_iterator") st' rfl rfl (by decide) ⟨.int (lo + i),H,I1,⟨t,?_⟩,⟨rfl,rfl⟩,st',fun b hb=>(hf b hb).1⟩⟩
  rw [Int.mul_one]
 done:=by
  intro X hP hw hK hc i pins s σ H E I hf st hg
  subst hP hw hK
  obtain ⟨f0,f1,f2,f3,f4,f5⟩:=hf it (by simp)
  exact wpAny_pyNext_range_end (I.ok.hd hc) st (by have : n ≤ i:=hg; omega) fun h' eb=>⟨rfl,I.turned (t':=s.toks) (fun b o hb e=>eb b o hb e) f0 f1 f3 f4 f5⟩
 self:=fun _ _ _ _ _ st h=>wpAny_pyIter_rangeiter st h
end L2
namespace L2
open PySem PySem.Spec PyProof.Rows
section
variable {X : Cx} {tg : Expr}
noncomputable def cs9 (K : PySem.W.Frag) (tl : TE) : TI:=fun σ H R=>tl σ H fun x H1=>∃ a,x = .ref a ∧ (∃ xs,SqL K H1 a xs) ∧ R (Itl K a) H1
noncomputable def cx1 (K : PySem.W.Frag) (tl : TE) : TI:=fun σ H R=>tl σ H fun x H1=>∃ a,x = .ref a ∧ (∃ xs,SqT K H1 a xs) ∧ R (Itt K a) H1
theorem bI7 {l : Expr} {tl : TE} (hl : PE X l tl) : PI X tg l (cs9 X.K tl):=by
 intro pins s σ H R I h
 refine thn (hl pins s σ H _ I h) fun v s1 ⟨x,H1,I1,r1,q1⟩=>?_
 obtain ⟨a,e,⟨xs,hq⟩,q⟩:=q1
 subst e
 cases r1
 obtain ⟨its,rv,p,hz⟩:=I1.list hq
 refine wpAny_pyIter_list p.isList ?_
 refine ⟨s1.heap.objs.size,[s1.heap.objs.size],_,_,H1,rfl,I1.kept (t':=s1.toks) fun b o e=>Heap.get?_push_of_some _ e,bi7 a _,⟨_,Heap.get?_push_size _ rfl,rfl,rfl⟩,fun b hb=>?_,q⟩
 have e : b = s1.heap.objs.size:=by simpa using hb
 subst e
 exact I1.fpOk (Nat.le_refl _) (I1.hok.fresh (Nat.le_refl _))
theorem cb2 {l : Expr} {tl : TE} (hl : PE X l tl) : PI X tg l (cx1 X.K tl):=by
 intro pins s σ H R I h
 refine thn (hl pins s σ H _ I h) fun v s1 ⟨x,H1,I1,r1,q1⟩=>?_
 obtain ⟨a,e,⟨xs,hq⟩,q⟩:=q1
 subst e
 cases r1
 obtain ⟨its,rv,p,hz⟩:=I1.tuple hq
 refine wpAny_pyIter_tuple (show s1.heap.IsTuple a its.toArray from p) ?_
 refine ⟨s1.heap.objs.size,[s1.heap.objs.size],_,_,H1,rfl,I1.kept (t':=s1.toks) fun b o e=>Heap.get?_push_of_some _ e,aV6 a _,⟨_,Heap.get?_push_size _ rfl,rfl,rfl⟩,fun b hb=>?_,q⟩
 have e : b = s1.heap.objs.size:=by simpa using hb
 subst e
 exact I1.fpOk (Nat.le_refl _) (I1.hok.fresh (Nat.le_refl _))
theorem aO6 {pins : List (Addr × Obj)} {σ : St} {H : Hp} {s : Shared} {R : It → Hp → Prop} {E : Value → Shared → Prop} {lo hi : Int} {t u v : Tok} {tk : Nat} (I : Inv X pins σ H s) (h1 : -(2 ^ 62) ≤ lo) (h2 : lo < 2 ^ 62) (h3 : -(2 ^ 62) ≤ hi) (h4 : hi < 2 ^ 62)
  (q : R (Itr lo (hi - lo).toNat) H) : wpAny (model X.prog X.w) X.A (pyIter (.ref s.heap.objs.size)) (PIE X pins σ tg R) E { s with heap:=s.heap.push { cls:=.type "range", data:=.fields #[.int lo t,.int hi u,.int 1 v] },toks:=tk }:=by
 refine wpAny_pyIter_range (IsRange.new ..) (small_one h1 h2 h3 h4) ?_
 have I1 : Inv X pins σ H { s with heap:=s.heap.push { cls:=.type "range", data:=.fields #[.int lo t,.int hi u,.int 1 v] },toks:=tk }:=I.kept fun b o e=>Heap.get?_push_of_some _ e
 refine ⟨(s.heap.push { cls:=.type "range", data:=.fields #[.int lo t,.int hi u,.int 1 v] }).objs.size,[(s.heap.push { cls:=.type "range", data:=.fields #[.int lo t,.int hi u,.int 1 v] }).objs.size],_,_,H,rfl,
  I1.kept (t':=tk) fun b o e=>Heap.get?_push_of_some _ e,aV7 _ lo (hi - lo).toNat,?_,fun b hb=>?_,q⟩
 ·have e1 : lo + ((0 : Nat) : Int) * 1 = lo:=by simp
  have e2 : (((hi - lo).toNat : Nat) : Int) - ((0 : Nat) : Int) = Builtin.Range.rangeSize lo hi 1:=by rw [rangeSize_one]; split <;> omega
  show IsRangeIter _ _ (lo + ((0 : Nat) : Int) * 1) ((((hi - lo).toNat : Nat) : Int) - ((0 : Nat) : Int)) 1
  rw [e1,e2]
  exact Heap.get?_push_size _ rfl
 ·have e : b = (s.heap.push { cls:=.type "range", data:=.fields #[.int lo t,.int hi u,.int 1 v] }).objs.size:=by simpa using hb
  subst e
  exact I1.fpOk (Nat.le_refl _) (I1.hok.fresh (Nat.le_refl _))
noncomputable def cs8 (ta : TA) : TI:=fun σ H R=>ta σ H fun vs H1=>∃ j : Int,vs = [.int j] ∧ -(2 ^ 62) ≤ j ∧ j < 2 ^ 62 ∧ R (Itr 0 j.toNat) H1
noncomputable def cs7 (ta : TA) : TI:=fun σ H R=>ta σ H fun vs H1=>∃ i j : Int,vs = [.int i,.int j] ∧ (-(2 ^ 62) ≤ i ∧ i < 2 ^ 62 ∧ -(2 ^ 62) ≤ j ∧ j < 2 ^ 62) ∧ R (Itr i (j - i).toNat) H1
theorem bk3 {a : Expr} {ta : TA} {p pos : Pos} (hg : Gl X "range") (hm : X.mg "range" = none) (ha : PA X [a] ta) (hs : starEach [a] X.env = [(false,eval a X.env)]:=by rfl) : PI X tg (.Call (.Name "range" p) [a] [] pos) (cs8 ta):=by
 intro pins s σ H R I h
 refine Call_ (ae1 I hg hm boot_range (PyProof.Rows.callWith_type1 (thn (ha pos pins s σ H _ I h) fun us s1 ⟨vs,H1,I1,r1,q1⟩=>?_) hs rfl))
 obtain ⟨j,e,q1,q2,q⟩:=q1
 subst e
 cases r1 with
 | cons r rr =>
  cases rr
  obtain ⟨t,rfl⟩:=r
  exact call_range_1 (aO6 I1 (by omega) (by omega) q1 q2 (by simpa using q))
theorem bk2 {a b : Expr} {ta : TA} {p pos : Pos} (hg : Gl X "range") (hm : X.mg "range" = none) (ha : PA X [a,b] ta) (hs : starEach [a,b] X.env = [(false,eval a X.env),(false,eval b X.env)]:=by rfl) (hs2 : starEach [b] X.env = [(false,eval b X.env)]:=by rfl) :
  PI X tg (.Call (.Name "range" p) [a,b] [] pos) (cs7 ta):=by
 intro pins s σ H R I h
 refine Call_ (ae1 I hg hm boot_range (PyProof.Rows.callWith_type1 (thn (ha pos pins s σ H _ I h) fun us s1 ⟨vs,H1,I1,r1,q1⟩=>?_) (by rw [hs,hs2]) (by rw [hs2]; rfl)))
 obtain ⟨i,j,e,⟨q1,q2,q3,q4⟩,q⟩:=q1
 subst e
 cases r1 with
 | cons r rr =>
  cases rr with
  | cons r' rr =>
   cases rr
   obtain ⟨t,rfl⟩:=r
   obtain ⟨t',rfl⟩:=r'
   exact call_range_2 (aO6 I1 q1 q2 q3 q4 q)
noncomputable def cv5 (wi : TI) (g : TG) (tb : TS) : TS:=fun D σ H=>wi σ H fun J H1=>∃ W : Nat → Nat → St → Hp → Prop,(∃ m,W 0 m σ H1) ∧ ∀ i m σ H,W i m σ H →
 (J.stop i H ∧ D.nx σ H) ∨ (J.go i H ∧ ∃ N : St → Hp → Prop,(∀ σ' H',N σ' H' → ∃ m',m' < m ∧ W (i + 1) m' σ' H') ∧ ∀ x H',J.yld i H x H' → g x σ H' fun σ2 H2=>tb { D with nx:=N,ct:=N,bk:=D.nx } σ2 H2)
noncomputable def ay0 (fp : List Addr) (h : Heap) : List (Addr × Obj):=fp.filterMap fun b=>(h.get? b).map fun o=>(b,o)
theorem aa1 {fp : List Addr} {h : Heap} {b : Addr} {o : Obj} (hb : b ∈ fp) (e : h.get? b = some o) : (b,o) ∈ ay0 fp h:=List.mem_filterMap.mpr ⟨b,hb,by rw [e]; rfl⟩
theorem bk8 {fp : List Addr} {h : Heap} {p : Addr × Obj} (hp : p ∈ ay0 fp h) : p.1 ∈ fp ∧ h.get? p.1 = some p.2:=by
 obtain ⟨b,hb,e⟩:=List.mem_filterMap.mp hp
 cases q : h.get? b with
 | none=>rw [q] at e; cases e
 | some o =>
  rw [q] at e
  have e' : (b,o) = p:=Option.some.inj e
  subst e'
  exact ⟨hb,q⟩
theorem Inv.pinned {pins : List (Addr × Obj)} {σ : St} {H : Hp} {s : Shared} {fp : List Addr} (I : Inv X pins σ H s) (hf : ∀ b ∈ fp,n9 X pins H b) (ho : ∀ b ∈ fp,∃ o,s.heap.get? b = some o ∧ ∀ v,o.data ≠ .cell v) : Inv X (pins ++ ay0 fp s.heap) σ H s :=
 I.pins_of fun p hp=>(List.mem_append.mp hp).elim (fun z=>I.pin p (List.mem_append_right _ z)) fun z=>by
  obtain ⟨hb,e⟩:=bk8 z
  obtain ⟨f0,f1,f2,_⟩:=hf p.1 hb
  obtain ⟨o,e',d⟩:=ho p.1 hb
  rw [e] at e'; cases e'
  exact ⟨e,f0,f1,f2,d⟩
theorem Inv.unpinned {pins pl : List (Addr × Obj)} {σ : St} {H : Hp} {s : Shared} (I : Inv X (pins ++ pl) σ H s) : Inv X pins σ H s:=I.pins_of fun p hp=>I.pin p (List.mem_append_right _ (List.mem_append_left _ hp))
theorem cb0 {iter : Expr} {body : List Stmt} {wi : TI} {g : TG} {tb : TS} {pos : Pos} (hp : PassesOwn (model X.prog X.w) X.A X.env X.xe) (hc : X.calm = true) (hi : PI X tg iter wi) (hg : PG X tg g) (hb : PSs X body tb)
  (hs : ∀ x,foldedSetIterable iter X.env x = pure x:=by intro _; rfl) : PS X (.For tg iter body [] pos) (cv5 wi g tb):=by
 intro pins s σ H D I h
 refine wpAny_For (thn (hi pins s σ H _ I h) fun v s1 h1=>thn h1 fun itv s2 h2=>?_) hs
 obtain ⟨it,fp,tn,J,H2,e,I2,T,st2,f2,W,⟨m0,w0⟩,turn⟩:=h2
 subst e
 have stat : ∀ {H' : Hp},(∀ b ∈ fp,H' b = none) → ∀ b ∈ fp,n9 X pins H' b:=fun hn b hb=>⟨hn b hb,(f2 b hb).2⟩
 refine codeAny_forLoop_any (fun n s'=>∃ i σ' H',Inv X pins σ' H' s' ∧ tn i s'.heap ∧ (∀ b ∈ fp,H' b = none) ∧ W i n σ' H') ?_ m0 ⟨0,σ,H2,I2,st2,fun b hb=>(f2 b hb).1,w0⟩
 rintro n s3 ⟨i,σ3,H3,I3,st3,fr3,w3⟩
 rcases turn i n σ3 H3 w3 with ⟨stop,qn⟩ | ⟨go,N,hN,step⟩
 ·refine wpAny_passesOwn hp (thn (T.done X rfl rfl rfl hc i pins s3 σ3 H3 X.xe I3 (stat fr3) st3 stop) fun r s4 ⟨hr,I4⟩=>?_)
  subst hr
  exact wpAny_execs_nil ⟨σ3,H3,I4,qn⟩
 ·refine wpAny_passesOwn hp (thn (T.item X rfl rfl rfl hc i pins s3 σ3 H3 X.xe I3 (stat fr3) st3 go) fun r s4 ⟨u,hr,h4⟩=>?_)
  subst hr
  refine wpAny_passesOwn hp (thn h4 fun _ s5 ⟨x,H5,I5,r5,y5,st5,fr5⟩=>?_)
  have I5':=I5.pinned (stat fr5) (T.obj _ _ st5)
  refine wpAny_passesOwn hp (thn (hg _ s5 σ3 H5 x u _ I5' r5 (step x H5 y5)) fun _ s6 ⟨σ6,H6,I6,q6⟩=>?_)
  refine wpAny_passesOwn hp (thn (hb _ s6 σ6 H6 _ I6 q6) fun f s7 q7=>?_)
  have again : ∀ {σ7 : St} {H7 : Hp},Inv X (pins ++ ay0 fp s5.heap) σ7 H7 s7 → N σ7 H7 → ∃ m,m < n ∧ ∃ i σ' H',Inv X pins σ' H' s7 ∧ tn i s7.heap ∧ (∀ b ∈ fp,H' b = none) ∧ W i m σ' H':=fun {σ7 H7} I7 n7=>by
   obtain ⟨m',hm,w7⟩:=hN σ7 H7 n7
   refine ⟨m',hm,i + 1,σ7,H7,I7.unpinned,T.keep _ _ _ st5 fun b hb o e=>(I7.pin (b,o) (List.mem_append_right _ (List.mem_append_right _ (aa1 hb e)))).1,fun b hb=>?_,w7⟩
   obtain ⟨o,e,d⟩:=T.obj _ _ st5 b hb
   exact (I7.pin (b,o) (List.mem_append_right _ (List.mem_append_right _ (aa1 hb e)))).2.1
  cases f with
  | next=>obtain ⟨σ7,H7,I7,n7⟩:=q7; exact again I7 n7
  | cont=>obtain ⟨σ7,H7,I7,n7⟩:=q7; exact again I7 n7
  | brk=>obtain ⟨σ7,H7,I7,q7⟩:=q7; exact ⟨σ7,H7,I7.unpinned,q7⟩
  | ret v=>obtain ⟨x7,σ7,H7,I7,r7,q7⟩:=q7; exact ⟨x7,σ7,H7,I7.unpinned,r7,q7⟩
end
end L2
namespace L2
open PySem PySem.Spec PyProof.Rows
noncomputable abbrev R2:=V → V → Hp → VK → Prop
noncomputable def OpR (X : Cx) (f : Value → Value → Sem Value) (r : R2) : Prop :=
 ∀ (pins : List (Addr × Obj)) (s : Shared) (σ : St) (H : Hp) (x y : V) (v u : Value) (Q : VK),Inv X pins σ H s → K8 x v → K8 y u → r x y H Q →
  wpAny (model X.prog X.w) X.A (f v u) (EP X pins σ Q) X.xe s
noncomputable def UnR (X : Cx) (f : Value → Sem Value) (r : V → Hp → VK → Prop) : Prop :=
 ∀ (pins : List (Addr × Obj)) (s : Shared) (σ : St) (H : Hp) (x : V) (v : Value) (Q : VK),Inv X pins σ H s → K8 x v → r x H Q →
  wpAny (model X.prog X.w) X.A (f v) (EP X pins σ Q) X.xe s
noncomputable def U2 (X : Cx) (f : Value) (r : List V → Hp → VK → Prop) : Prop :=
 ∀ (pins : List (Addr × Obj)) (s : Shared) (σ : St) (H : Hp) (xs : List V) (us : List Value) (Q : VK),Inv X pins σ H s → F6 xs us → r xs H Q →
  wpAny (model X.prog X.w) X.A (call f us) (EP X pins σ Q) X.xe s
noncomputable def cx6 (X : Cx) (r : V → Hp → (Bool → Hp → Prop) → Prop) : Prop :=
 ∀ (pins : List (Addr × Obj)) (s : Shared) (σ : St) (H : Hp) (x : V) (v : Value) (Q : Bool → Hp → Prop),Inv X pins σ H s → K8 x v → r x H Q →
  wpAny (model X.prog X.w) X.A (truthy v) (TP X pins σ Q) X.xe s
noncomputable def tOp (r : R2) (ta tb : TE) : TE:=fun σ H Q=>ta σ H fun x H1=>tb σ H1 fun y H2=>r x y H2 Q
noncomputable def tUn (r : V → Hp → VK → Prop) (ta : TE) : TE:=fun σ H Q=>ta σ H fun x H1=>r x H1 Q
noncomputable def rI (C : Int → Int → Prop) (g : Int → Int → V) : R2:=fun x y H Q=>∃ i j,x = .int i ∧ y = .int j ∧ C i j ∧ Q (g i j) H
noncomputable def rI0 (g : Int → Int → V) : R2:=fun x y H Q=>∃ i j,x = .int i ∧ y = .int j ∧ Q (g i j) H
noncomputable def rU (g : Int → V) : V → Hp → VK → Prop:=fun x H Q=>∃ i,x = .int i ∧ Q (g i) H
section
variable {X : Cx} {a b c : Expr} {ta tb tc : TE} {pos : Pos}
theorem cl0 (ha : PE X a ta) (hb : PE X b tb) {pins : List (Addr × Obj)} {s : Shared} {σ : St} {H : Hp} {R : V → V → Hp → Prop} (I : Inv X pins σ H s)
  (h : ta σ H fun x H1=>tb σ H1 fun y H2=>R x y H2) {Q : Value → Shared → Prop} {f : Value → Value → Sem Value}
  (hf : ∀ v u s2 x y H2,Inv X pins σ H2 s2 → K8 x v → K8 y u → R x y H2 → wpAny (model X.prog X.w) X.A (f v u) Q X.xe s2) :
  wpAny (model X.prog X.w) X.A (eval a X.env) (fun v s₁=>wpAny (model X.prog X.w) X.A (eval b X.env) (fun u s₂=>wpAny (model X.prog X.w) X.A (f v u) Q X.xe s₂) X.xe s₁) X.xe s:=by
 refine thn (ha pins s σ H _ I h) fun v s1 ⟨x,H1,I1,r1,q1⟩=>?_
 refine thn (hb pins s1 σ H1 _ I1 q1) fun u s2 ⟨y,H2,I2,r2,q2⟩=>?_
 exact hf v u s2 x y H2 I2 r1 r2 q2
theorem bS1 {op : Operator} {r : R2} (ho : OpR X (binaryOp op) r) (ha : PE X a ta) (hb : PE X b tb) : PE X (.BinOp a op b pos) (tOp r ta tb):=by
 intro pins s σ H Q I h
 exact wpAny_BinOp (cl0 ha hb I h fun v u s2 x y H2 I2 rx ry q=>ho pins s2 σ H2 x y v u Q I2 rx ry q)
theorem cp7 {op : UnaryOp} {r : V → Hp → VK → Prop} (ho : UnR X (unaryOp op) r) (ha : PE X a ta) : PE X (.UnaryOp op a pos) (tUn r ta):=by
 intro pins s σ H Q I h
 exact UnaryOp_ (thn (ha pins s σ H _ I h) fun v s1 ⟨x,H1,I1,r1,q1⟩=>ho pins s1 σ H1 x v Q I1 r1 q1)
theorem opI {f : Value → Value → Sem Value} {C : Int → Int → Prop} {g : Int → Int → Int}
  (rule : ∀ (i j : Int) (t u : Tok) (s : Shared) (Q : Value → Shared → Prop) (E : Value → Shared → Prop),C i j → Q (.int (g i j) s.toks) { s with toks:=s.toks + 1 } → wpAny (model X.prog X.w) X.A (f (.int i t) (.int j u)) Q E s) :
  OpR X f (rI C fun i j=>.int (g i j)):=by
 intro pins s σ H x y v u Q I rx ry h
 obtain ⟨i,j,rfl,rfl,hc,q⟩:=h
 obtain ⟨t,rfl⟩:=rx
 obtain ⟨t',rfl⟩:=ry
 exact rule i j t t' s _ _ hc ⟨.int (g i j),H,I.tok _,⟨_,rfl⟩,q⟩
theorem cq4 {f : Value → Value → Sem Value} {g : Int → Int → Int}
  (rule : ∀ (i j : Int) (t u : Tok) (s : Shared) (Q : Value → Shared → Prop) (E : Value → Shared → Prop),Q (.int (g i j) s.toks) { s with toks:=s.toks + 1 } → wpAny (model X.prog X.w) X.A (f (.int i t) (.int j u)) Q E s) :
  OpR X f (rI0 fun i j=>.int (g i j)):=by
 intro pins s σ H x y v u Q I rx ry h
 obtain ⟨i,j,rfl,rfl,q⟩:=h
 obtain ⟨t,rfl⟩:=rx
 obtain ⟨t',rfl⟩:=ry
 exact rule i j t t' s _ _ ⟨.int (g i j),H,I.tok _,⟨_,rfl⟩,q⟩
theorem bJ9 {f : Value → Value → Sem Value} {g : Int → Int → Bool}
  (rule : ∀ (i j : Int) (t u : Tok) (s : Shared) (Q : Value → Shared → Prop) (E : Value → Shared → Prop),Q (.bool (g i j)) s → wpAny (model X.prog X.w) X.A (f (.int i t) (.int j u)) Q E s) :
  OpR X f (rI0 fun i j=>.bl (g i j)):=by
 intro pins s σ H x y v u Q I rx ry h
 obtain ⟨i,j,rfl,rfl,q⟩:=h
 obtain ⟨t,rfl⟩:=rx
 obtain ⟨t',rfl⟩:=ry
 exact rule i j t t' s _ _ ⟨.bl (g i j),H,I,rfl,q⟩
noncomputable def cy0 (i j : Int) : Prop:=0 ≤ j ∧ j ≤ 1000000 ∧ i.natAbs < 2 ^ 64
theorem bw8 : OpR X (binaryOp .Add) (rI0 fun i j=>.int (i + j)):=cq4 fun _ _ _ _ _ _ _ q=>add_int q
theorem cc2 : OpR X (binaryOp .Sub) (rI0 fun i j=>.int (i - j)):=cq4 fun _ _ _ _ _ _ _ q=>sub_int q
theorem cc4 : OpR X (binaryOp .Mod) (rI (fun _ j=>0 < j) fun i j=>.int (i % j)):=opI fun i j _ _ _ _ _ hc q=>by
 have h1 : (0 : Int) < j:=hc
 exact mod_int' (by omega) (by rw [Int.fmod_eq_emod_of_nonneg i (by omega)]; exact q)
theorem cc3 : OpR X (binaryOp .Pow) (rI cy0 fun i j=>.int (i ^ j.toNat)):=opI fun _ _ _ _ _ _ _ hc q=>pow_int_small hc.1 hc.2.1 hc.2.2 q
theorem unI {f : Value → Sem Value} {g : Int → Int}
  (rule : ∀ (i : Int) (t : Tok) (s : Shared) (Q : Value → Shared → Prop) (E : Value → Shared → Prop),Q (.int (g i) s.toks) { s with toks:=s.toks + 1 } → wpAny (model X.prog X.w) X.A (f (.int i t)) Q E s) :
  UnR X f (rU fun i=>.int (g i)):=by
 intro pins s σ H x v Q I rx h
 obtain ⟨i,rfl,q⟩:=h
 obtain ⟨t,rfl⟩:=rx
 exact rule i t s _ _ ⟨.int (g i),H,I.tok _,⟨_,rfl⟩,q⟩
theorem bU4 : UnR X (unaryOp .USub) (rU fun i=>.int (-i)):=unI fun _ _ _ _ _ q=>neg_int q
end
section
variable {X : Cx} {a b c : Expr} {ta tb tc : TE} {pos : Pos}
theorem aK5 {pins : List (Addr × Obj)} {σ : St} {H : Hp} {s : Shared} {Q : VK} {k k' : Bool} (I : Inv X pins σ H s) (q : Q (.bl k) H) (e : k = k') : EP X pins σ Q (.bool k') s:=by
 subst e
 exact ⟨.bl k,H,I,rfl,q⟩
theorem cq0 : OpR X (compareOp .Lt) (rI0 fun i j=>.bl (decide (i < j))):=bJ9 fun _ _ _ _ _ _ _ q=>lt_int q
theorem cq1 : OpR X (compareOp .LtE) (rI0 fun i j=>.bl (decide (i ≤ j))):=bJ9 fun _ _ _ _ _ _ _ q=>le_int q
theorem cq2 : OpR X (compareOp .Gt) (rI0 fun i j=>.bl (decide (j < i))):=bJ9 fun _ _ _ _ _ _ _ q=>gt_int q
theorem cq3 : OpR X (compareOp .GtE) (rI0 fun i j=>.bl (decide (j ≤ i))):=bJ9 fun _ _ _ _ _ _ _ q=>ge_int q
theorem bk4 : OpR X (compareOp .In) (fun x y H Q=>∃ i j,x = .str i ∧ y = .str j ∧ Q (.bl (!(Builtin.Str.occurrences j i 0 j.length 1).isEmpty)) H):=by
 intro pins s σ H x y v u Q I rx ry h
 obtain ⟨i,j,rfl,rfl,q⟩:=h
 obtain ⟨t,rfl⟩:=rx
 obtain ⟨t',rfl⟩:=ry
 exact in_str (aK5 I q rfl)
theorem cc5 : OpR X (compareOp .Is) (fun x y H Q=>y = .non ∧ Q (.bl (decide (x = .non))) H):=by
 intro pins s σ H x y v u Q I rx ry h
 obtain ⟨rfl,q⟩:=h
 cases ry
 refine is_none_gen (aK5 I q ?_)
 cases x <;> first
  | (cases rx; rfl)
  | (obtain ⟨t,rfl⟩:=rx; rfl)
theorem bJ6 : OpR X (compareOp .IsNot) (fun x y H Q=>y = .non ∧ Q (.bl (!decide (x = .non))) H):=by
 intro pins s σ H x y v u Q I rx ry h
 obtain ⟨rfl,q⟩:=h
 cases ry
 refine isnot_none_gen (aK5 I q ?_)
 cases x <;> first
  | (cases rx; rfl)
  | (obtain ⟨t,rfl⟩:=rx; rfl)
theorem aI5 : OpR X (compareOp .NotIn) (fun x y H Q=>∃ i j,x = .str i ∧ y = .str j ∧ Q (.bl (!(!(Builtin.Str.occurrences j i 0 j.length 1).isEmpty))) H):=by
 intro pins s σ H x y v u Q I rx ry h
 obtain ⟨i,j,rfl,rfl,q⟩:=h
 obtain ⟨t,rfl⟩:=rx
 obtain ⟨t',rfl⟩:=ry
 exact notIn_str (aK5 I q rfl)
theorem bx8 (b : Expr) {op : CmpOp} (h : op ≠ .In:=by decide) (h2 : op ≠ .NotIn:=by decide) : behindInMarks op b = false:=by
 have e1 : (op == CmpOp.In) = false:=by cases op <;> first | rfl | exact absurd rfl h
 have e2 : (op == CmpOp.NotIn) = false:=by cases op <;> first | rfl | exact absurd rfl h2
 cases b <;> simp [behindInMarks,e1,e2]
theorem bJ1 {op : CmpOp} {r : R2} (ho : OpR X (compareOp op) r) (ha : PE X a ta) (hb : PE X b tb) (hm : behindInMarks op b = false) : PE X (.Compare a [op] [b] pos) (tOp r ta tb):=by
 intro pins s σ H Q I h
 exact wpAny_Compare1 (cl0 ha hb I h fun v u s2 x y H2 I2 rx ry q=>ho pins s2 σ H2 x y v u Q I2 rx ry q) hm
noncomputable def bR2 (t : TE) : TT:=fun σ H Q=>t σ H fun x H'=>∃ k,x = .bl k ∧ Q k H'
theorem bI1 {op : CmpOp} {r : R2} (ho : OpR X (compareOp op) r) (ha : PE X a ta) (hb : PE X b tb) (hm : behindInMarks op b = false) : PT X (.Compare a [op] [b] pos) (bR2 (tOp r ta tb)):=by
 intro pins s σ H Q I h
 refine wpAny_isTrue_Compare1 (thn (ha pins s σ H _ I h) fun v s1 ⟨x,H1,I1,r1,q1⟩=>thn (hb pins s1 σ H1 _ I1 q1) fun u s2 ⟨y,H2,I2,r2,q2⟩ =>
  thn (ho pins s2 σ H2 x y v u _ I2 r1 r2 q2) fun c s3 ⟨z,H3,I3,r3,k,e,q3⟩=>?_) hm
 subst e
 cases r3
 exact wpAny_truthy_bool ⟨H3,I3,q3⟩
noncomputable def bt8 (r r' : R2) (ta tb tc : TE) : TE:=fun σ H Q=>ta σ H fun x H1=>tb σ H1 fun y H2=>r x y H2 fun z H3=>∃ k,z = .bl k ∧
 (if k = true then tc σ H3 fun w' H4=>r' y w' H4 Q else Q (.bl false) H3)
theorem aP1 {op op' : CmpOp} {r r' : R2} (ho : OpR X (compareOp op) r) (ho' : OpR X (compareOp op') r') (ha : PE X a ta) (hb : PE X b tb) (hc : PE X c tc)
  (hm : lastMarks [op,op'] [b,c] = false:=by with_unfolding_all rfl) : PE X (.Compare a [op,op'] [b,c] pos) (bt8 r r' ta tb tc):=by
 intro pins s σ H Q I h
 refine Compare_chain (thn (ha pins s σ H _ I h) fun v s1 ⟨x,H1,I1,r1,q1⟩=>chain_link (thn (hb pins s1 σ H1 _ I1 q1) fun u s2 ⟨y,H2,I2,r2,q2⟩ =>
  thn (ho pins s2 σ H2 x y v u _ I2 r1 r2 q2) fun d s3 ⟨z,H3,I3,r3,k,e,q3⟩=>?_)) hm
 subst e
 cases r3
 refine wpAny_truthy_bool ?_
 cases k with
 | false=>exact ite_ff ⟨.bl false,H3,I3,rfl,q3⟩
 | true=>exact ite_tt (chain_last (thn (hc pins s3 σ H3 _ I3 q3) fun w' s4 ⟨z',H4,I4,r4,q4⟩=>ho' pins s4 σ H4 y z' u w' Q I4 r2 r4 q4))
theorem aO7 {op op' : CmpOp} {r r' : R2} (ho : OpR X (compareOp op) r) (ho' : OpR X (compareOp op') r') (ha : PE X a ta) (hb : PE X b tb) (hc : PE X c tc)
  (hm : lastMarks [op,op'] [b,c] = false:=by with_unfolding_all rfl) : PT X (.Compare a [op,op'] [b,c] pos) (bR2 (bt8 r r' ta tb tc)):=by
 intro pins s σ H Q I h
 refine isTrue_chain (thn (ha pins s σ H _ I h) fun v s1 ⟨x,H1,I1,r1,q1⟩=>test_link (thn (hb pins s1 σ H1 _ I1 q1) fun u s2 ⟨y,H2,I2,r2,q2⟩ =>
  thn (ho pins s2 σ H2 x y v u _ I2 r1 r2 q2) fun d s3 ⟨z,H3,I3,r3,k,e,q3⟩=>?_)) hm
 subst e
 cases r3
 refine wpAny_truthy_bool ?_
 cases k with
 | false =>
  obtain ⟨k',e',q'⟩:=q3
  cases e'
  exact ite_ff ⟨H3,I3,q'⟩
 | true =>
  refine ite_tt (test_last (thn (hc pins s3 σ H3 _ I3 q3) fun w' s4 ⟨z',H4,I4,r4,q4⟩=>thn (ho' pins s4 σ H4 y z' u w' _ I4 r2 r4 q4) fun d' s5 ⟨z2,H5,I5,r5,k2,e2,q5⟩=>?_))
  subst e2
  cases r5
  exact wpAny_truthy_bool ⟨H5,I5,q5⟩
noncomputable def cu3 (K : PySem.W.Frag) (x : V) (H : Hp) (k : Bool) : Prop :=
 match x with
 | .non=>k = false
 | .bl b=>k = b
 | .int i=>k = (i != 0)
 | .str y=>y.length ≤ sizeLine ∧ k = ((y.length : Int) != 0)
 | .byt y=>y.size ≤ sizeLine ∧ k = ((y.size : Int) != 0)
 | .ref p=>(∃ xs,SqL K H p xs ∧ k = !xs.isEmpty) ∨ (∃ xs,SqT K H p xs ∧ k = !xs.isEmpty) ∨ ∃ kvs,H p = some (.dK kvs) ∧ k = !kvs.isEmpty
 | _=>False
theorem aZ1 {κ : Type} {kvs : List (κ × V)} {vs : List (κ × Value)} (r : KV kvs vs) : (!vs.isEmpty) = !kvs.isEmpty:=by
 cases r <;> rfl
theorem az0 {xs : List V} {its : List Value} (r : F6 xs its) : (!its.toArray.isEmpty) = !xs.isEmpty:=by
 cases r <;> simp
theorem as4 : (sizeLine : Nat) < 2 ^ 63:=by rw [sizeLine_eq]; decide
theorem bU7 : cx6 X (fun x H Q=>∃ k,cu3 X.K x H k ∧ Q k H):=by
 intro pins s σ H x v Q I rx h
 obtain ⟨k,e,q⟩:=h
 have hl:=as4
 have hs : sizeLine = 16777216:=sizeLine_eq
 cases x with
 | non =>
  cases rx
  have e' : k = false:=e
  subst e'
  exact truthy_none ⟨H,I,q⟩
 | bl b =>
  cases rx
  have e' : k = b:=e
  subst e'
  exact wpAny_truthy_bool ⟨H,I,q⟩
 | int i =>
  obtain ⟨t,rfl⟩:=rx
  have e' : k = (i != 0):=e
  subst e'
  exact PySem.P.truthy_int ⟨H,I,q⟩
 | str y =>
  obtain ⟨t,rfl⟩:=rx
  obtain ⟨hy,e'⟩ : y.length ≤ sizeLine ∧ k = ((y.length : Int) != 0):=e
  subst e'
  exact PySem.P.truthy_str (by omega) ⟨H,I.tok _,q⟩
 | byt y =>
  obtain ⟨t,rfl⟩:=rx
  obtain ⟨hy,e'⟩ : y.size ≤ sizeLine ∧ k = ((y.size : Int) != 0):=e
  subst e'
  exact PySem.W.truthy_bytes (by omega) ⟨H,I.tok _,q⟩
 | ref p =>
  cases rx
  have e' : (∃ xs,SqL X.K H p xs ∧ k = !xs.isEmpty) ∨ (∃ xs,SqT X.K H p xs ∧ k = !xs.isEmpty) ∨ ∃ kvs,H p = some (.dK kvs) ∧ k = !kvs.isEmpty:=e
  rcases e' with ⟨xs,hx,e'⟩ | ⟨xs,hx,e'⟩ | ⟨kvs,hx,e'⟩
  ·subst e'
   obtain ⟨its,r,pl,hz⟩:=I.list hx
   have hlen:=r.length
   exact wpAny_truthy_list pl.isList (by simp only [List.size_toArray]; omega) ⟨H,I.tok _,by rw [az0 r]; exact q⟩
  ·subst e'
   obtain ⟨its,r,pl,hz⟩:=I.tuple hx
   have hlen:=r.length
   exact truthy_tuple pl (by simp only [List.size_toArray]; omega) ⟨H,I.tok _,by rw [az0 r]; exact q⟩
  ·subst e'
   obtain ⟨hz,hS,vs,r,m⟩ : kvs.length ≤ sizeLine ∧ (p == sysModules) = false ∧ ∃ vs,KV kvs vs ∧ s.heap.DictOf (aJ6 X.prog X.w) p vs:=I.hok p _ hx
   have hlen : kvs.length = vs.length:=Paired.length r
   exact wpAny_truthy_dict hS m (by omega) ⟨H,I.tok _,by rw [aZ1 r]; exact q⟩
 | _=>exact (show False from e).elim
theorem bv6 (ha : PE X a ta) (he : ∀ whole,isTrue a X.env whole = (do let v ← whole; standAt a.pos; holding [v] (truthy v))) :
  PT X a (fun σ H Q=>ta σ H fun x H'=>∃ k,cu3 X.K x H' k ∧ Q k H'):=by
 intro pins s σ H Q I h
 exact isTrue_plain (thn (ha pins s σ H _ I h) fun v s1 ⟨x,H1,I1,r1,q1⟩=>bU7 pins s1 σ H1 x v Q I1 r1 q1) (he _)
theorem aX5 : OpR X (binaryOp .Add) (fun x y H Q=>∃ i j,x = .str i ∧ y = .str j ∧ i.length + j.length ≤ sizeLine ∧ Q (.str (i ++ j)) H):=by
 intro pins s σ H x y v u Q I rx ry h
 obtain ⟨i,j,rfl,rfl,hz,q⟩:=h
 obtain ⟨t,rfl⟩:=rx
 obtain ⟨t',rfl⟩:=ry
 exact add_str (fun t' tk=>⟨.str (i ++ j),H,I.tok _,⟨_,rfl⟩,q⟩) hz
theorem h9 {x : V} {us : List Value} (r : F6 [x] us) : ∃ u,us = [u] ∧ K8 x u:=by
 cases r with
 | cons r1 r2=>cases r2; exact ⟨_,rfl,r1⟩
theorem bd2 {x y : V} {us : List Value} (r : F6 [x,y] us) : ∃ u w',us = [u,w'] ∧ K8 x u ∧ K8 y w':=by
 cases r with
 | cons r1 r2 =>
  cases r2 with
  | cons r3 r4=>cases r4; exact ⟨_,_,rfl,r1,r3⟩
theorem bF0 : U2 X (.builtin "abs") (fun xs H Q=>∃ i,xs = [.int i] ∧ Q (.int (if i < 0 then -i else i)) H):=by
 intro pins s σ H xs us Q I r h
 obtain ⟨i,rfl,q⟩:=h
 obtain ⟨u,rfl,t,rfl⟩:=h9 r
 exact call_abs_int fun u tk=>⟨.int (if i < 0 then -i else i),H,I.tok _,⟨_,rfl⟩,q⟩
theorem bq3 (hc : X.calm = true) : U2 X (.builtin "max") (fun xs H Q=>∃ i j,xs = [.int i,.int j] ∧ Q (.int (if j > i then j else i)) H):=by
 intro pins s σ H xs us Q I r h
 obtain ⟨i,j,rfl,q⟩:=h
 obtain ⟨u,w',rfl,⟨t,rfl⟩,⟨t',rfl⟩⟩:=bd2 r
 refine max_two_ints (I.ok.hd hc) fun h' tk k=>⟨_,H,I.kept k,?_,q⟩
 by_cases hj : j > i
 ·rw [if_pos hj,if_pos hj]; exact ⟨_,rfl⟩
 ·rw [if_neg hj,if_neg hj]; exact ⟨_,rfl⟩
theorem bq1 (hc : X.calm = true) : U2 X (.builtin "min") (fun xs H Q=>∃ i j,xs = [.int i,.int j] ∧ Q (.int (if j < i then j else i)) H):=by
 intro pins s σ H xs us Q I r h
 obtain ⟨i,j,rfl,q⟩:=h
 obtain ⟨u,w',rfl,⟨t,rfl⟩,⟨t',rfl⟩⟩:=bd2 r
 refine min_two_ints (I.ok.hd hc) fun h' tk k=>⟨_,H,I.kept k,?_,q⟩
 by_cases hj : j < i
 ·rw [if_pos hj,if_pos hj]; exact ⟨_,rfl⟩
 ·rw [if_neg hj,if_neg hj]; exact ⟨_,rfl⟩
theorem aF6 : U2 X (.type "int") (fun xs H Q=>(∃ i,xs = [.int i] ∧ Q (.int i) H) ∨ ∃ k,xs = [.bl k] ∧ Q (.int (if k then 1 else 0)) H):=by
 intro pins s σ H xs us Q I r h
 rcases h with ⟨i,rfl,q⟩ | ⟨k,rfl,q⟩
 ·obtain ⟨u,rfl,t,rfl⟩:=h9 r
  exact call_int_int ⟨.int i,H,I,⟨_,rfl⟩,q⟩
 ·obtain ⟨u,rfl,r1⟩:=h9 r
  cases r1
  exact call_int_bool ⟨.int (if k then 1 else 0),H,I.tok _,⟨_,rfl⟩,q⟩
theorem aL3 : U2 X (.type "str") (fun xs H Q=>∃ i,xs = [.int i] ∧ i.natAbs.log2 < 1920 ∧ Q (.str (toString i)) H):=by
 intro pins s σ H xs us Q I r h
 obtain ⟨i,rfl,hz,q⟩:=h
 obtain ⟨u,rfl,t,rfl⟩:=h9 r
 exact PySem.P.str_of_int hz ⟨.str _,H,I.tok _,⟨_,rfl⟩,q⟩
end
end L2
namespace L2
open PySem PySem.Spec PyProof.Rows
section
variable {prog : Program} {w : World} {A : Around} {E : Value → Shared → Prop} {s : Shared} {K : PySem.W.Frag} {x dx C f : Addr} {mA : Str → Option Value} {name : Str} {v : Value}
end
section
variable {P : Program} {w : World} {H H' : Hp} {h h' : Heap} {a C dx : Addr} {fs fs' : List (Str × V)}
end
section
variable {X : Cx} {pins : List (Addr × Obj)} {σ : St} {H : Hp} {s : Shared} {a C dx : Addr} {fs : List (Str × V)} {f : Str} {v : V} {A : Around} {E : Value → Shared → Prop}
end
section
variable {X : Cx} {o e value : Expr} {f : Str} {pos pos' tpos : Pos} {ta tv : TE}
end
section
variable {X : Cx} {pins : List (Addr × Obj)} {σ : St} {H : Hp} {s : Shared} {A : Around} {E : Value → Shared → Prop} {Q : Value → Shared → Prop} {c : Value} {b : Bool}
end
end L2
namespace L2
open PySem PySem.Spec PyProof.Rows
structure Room (k : Nat) (A : Around) : Prop where
 hd : A.handled = none
 dp : A.depth + 3 * k + 5 < recursionLimit
 un : A.units + 16 * k + 200 < cLine
theorem Room.mono {j k : Nat} {A : Around} (r : Room k A) (h : j ≤ k) : Room j A:=⟨r.hd,by have:=r.dp; omega,by have:=r.un; omega⟩
theorem Room.deeper {k : Nat} {A : Around} (r : Room (k + 1) A) (env : Env) : Room k (A.deeper env) :=
 ⟨r.hd,by have:=r.dp; show A.depth + 1 + 3 * k + 5 < _; omega,by have:=r.un; show A.units + 3 + 16 * k + 200 < _; omega⟩
theorem Room.depth {k : Nat} {A : Around} (r : Room k A) : A.depth < recursionLimit:=by have:=r.dp; omega
theorem Room.units {k : Nat} {A : Around} (r : Room k A) : A.units + 64 < cLine:=by have:=r.un; omega
noncomputable def co0 : TA:=fun _ H Q=>Q [] H
noncomputable def co3 (ta : TE) (tr : TA) : TA:=fun σ H Q=>ta σ H fun x H1=>tr σ H1 fun xs H2=>Q (x :: xs) H2
section
variable {X : Cx} {e : Expr} {es : List Expr} {te : TE} {t : TA} {pos : Pos}
theorem J7 : PA X [] co0:=fun _ _ _ _ H Q I h=>Calls.spliced_nil ⟨[],H,I,.nil,h⟩
theorem E6 (ha : PE X e te) (hr : PA X es t) (hs : starEach (e :: es) X.env = (false,eval e X.env) :: starEach es X.env:=by rfl) : PA X (e :: es) (co3 te t):=by
 intro pos pins s σ H Q I h
 rw [hs]
 show wpAny _ _ (spliced ((false,eval e X.env) :: backTo pos (starEach es X.env))) _ _ s
 refine Calls.spliced_cons (thn (ha pins s σ H _ I h) fun u s1 ⟨x,H1,I1,r1,q1⟩=>?_)
 exact thn (hr pos pins s1 σ H1 _ I1 q1) fun us s2 ⟨xs,H2,I2,r2,q2⟩=>⟨x :: xs,H2,I2,.cons r1 r2,q2⟩
noncomputable def cu7 (t : TA) : TE:=fun σ H Q=>t σ H fun xs H1=>xs.length ≤ sizeLine ∧ ∀ p,H1 p = none → Q (.ref p) (upd H1 p (.tup xs))
noncomputable def cv3 (t : TA) : TE:=fun σ H Q=>t σ H fun xs H1=>xs.length ≤ sizeLine ∧ ∀ p,H1 p = none → Q (.ref p) (upd H1 p (.lst xs))
theorem cb4 {x1} (h : PA X es t) : PE X (.Tuple es x1 pos) (cu7 t):=by
 intro pins s σ H Q I hq
 refine wpAny_Tuple_spliced (thn (h pos pins s σ H _ I hq) fun us s1 ⟨xs,H1,I1,r,z,q⟩=>⟨by rw [← r.length]; exact z,?_⟩)
 have hf : H1 s1.heap.objs.size = none:=I1.hok.fresh (Nat.le_refl _)
 refine ⟨.ref s1.heap.objs.size,upd H1 s1.heap.objs.size (.tup xs),I1.laid (t':=s1.toks) (fun b u e=>Heap.get?_push_of_some _ e) (Nat.le_refl _) ?_,rfl,q _ hf⟩
 exact ⟨z,us,r,⟨_,Heap.get?_push_size _ rfl,rfl,_,rfl⟩⟩
theorem cc0 (h : PA X es t) : PE X (.List es pos) (cv3 t):=by
 intro pins s σ H Q I hq
 refine wpAny_List_spliced (thn (h pos pins s σ H _ I hq) fun us s1 ⟨xs,H1,I1,r,z,q⟩=>⟨by rw [← r.length]; exact z,?_⟩)
 have hf : H1 s1.heap.objs.size = none:=I1.hok.fresh (Nat.le_refl _)
 refine ⟨.ref s1.heap.objs.size,upd H1 s1.heap.objs.size (.lst xs),I1.laid (t':=s1.toks) (fun b u e=>Heap.get?_push_of_some _ e) (Nat.le_refl _) ?_,rfl,q _ hf⟩
 exact ⟨z,us,0,r,Heap.get?_push_size _ rfl⟩
end
noncomputable abbrev Sp:=List V → Hp → VK → XK → Prop
noncomputable abbrev CXT:=List Env → Hp → Shared → XK → Value → Shared → Prop
structure Env0 (P : Program) (w : World) (K : PySem.W.Frag) (mg : Str → Option Value) (base : Heap) (A : Around) (outer : List Env) (s : Shared) (H : Hp) : Prop where
 frames : A.frames = some outer
 mod : Mod K mg base
 bs : ∀ b o,base.get? b = some o → s.heap.get? b = some o ∧ H b = none
 bsz : base.objs.size ≤ s.heap.objs.size
 funs : s.heap.FunFrames base outer
 frf : ∀ b ∈ frs outer,H b = none
 hok : HOk P w H s.heap
 bare : AllBare s.gens
noncomputable def CE (outer : List Env) (P : Program) (w : World) (H : Hp) (s : Shared) (Q : VK) (u : Value) (s' : Shared) : Prop :=
 ∃ v H',s'.os = s.os ∧ AllBare s'.gens ∧ Un (frs outer) [] H H' s.heap s'.heap ∧ HOk P w H' s'.heap ∧ K8 v u ∧ Q v H'
noncomputable def CR (CX : CXT) (outer : List Env) (P : Program) (w : World) (H : Hp) (s : Shared) (Q : VK) (E : XK) (r : Result) (s' : Shared) : Prop :=
 match r with
 | .ok (.ret u)=>CE outer P w H s Q u s'
 | .ok _=>False
 | .error e=>CX outer H s E e s'
structure FnOk (P : Program) (w : World) (K : PySem.W.Frag) (mg : Str → Option Value) (base : Heap) (CX : CXT) (k : Nat) (f : Addr) (fd : FuncData) (ps : List Str) (sp : Sp) : Prop where
 len : ∀ vs H Q E,sp vs H Q E → vs.length = ps.length
 run : ∀ (A : Around) (outer : List Env) (s : Shared) (H : Hp) (args : Args) (us : List Value) (vs : List V) (Q : VK) (E : XK),Room k A → Env0 P w K mg base A outer s H → BindsTo s fd args (ps.zip us) → F6 vs us → sp vs H Q E →
  codeAny (model P w) A (.call (.ref f) args) (CR CX outer P w H s Q E) s
theorem FnOk.mono {P : Program} {w : World} {K : PySem.W.Frag} {mg : Str → Option Value} {base : Heap} {CX : CXT} {j k : Nat} {f : Addr} {fd : FuncData} {ps : List Str} {sp : Sp} (F : FnOk P w K mg base CX j f fd ps sp) (h : j ≤ k) :
  FnOk P w K mg base CX k f fd ps sp:=⟨F.len,fun A outer s H args us vs Q E hr=>F.run A outer s H args us vs Q E (hr.mono h)⟩
section
variable {X : Cx} {pins : List (Addr × Obj)} {σ : St} {H : Hp} {s s' : Shared}
theorem Inv.env0 (I : Inv X pins σ H s) : Env0 X.prog X.w X.K X.mg X.base X.A X.stack s H :=
 ⟨I.ok.frames,I.ok.mod,I.bs,Nat.le_trans I.ok.bsz I.sz,I.stack,I.stkFree,I.hok,I.bare⟩
theorem Inv.after {Q : VK} {u : Value} (I : Inv X pins σ H s) (h : CE X.stack X.prog X.w H s Q u s') : EP X pins σ Q u s':=by
 obtain ⟨v,H',os,bare,un,hok,r,q⟩:=h
 obtain ⟨hh,g,d,t,os'⟩:=s'
 obtain rfl : os' = s.os:=os
 exact ⟨v,H',I.call (h':=hh) (g':=g) (d':=d) (t':=t) (ch:=[]) un hok bare (fun b z=>absurd z (by simp)),r,q⟩
end
noncomputable def bR4 (sp : Sp) (dvs : List V) (E : XK) (t : TA) : TE:=fun σ H Q=>t σ H fun vs H1=>sp (vs ++ dvs) H1 Q E
noncomputable def k7 (K : PySem.W.Frag) (fd : FuncData) (ps : List Str) (ds : List Value) : Prop :=
 ∀ (s : Shared) (us : List Value),K.In s.heap → (us ++ ds).length = ps.length → BindsTo s fd ⟨us,[]⟩ (ps.zip (us ++ ds))
theorem k7.all {K : PySem.W.Frag} {fd : FuncData} {ps : List Str} (h : ∀ us : List Value,us.length = ps.length → bindArgs fd ⟨us,[]⟩ = pure (ps.zip us)) : k7 K fd ps []:=fun s us _ hl=>by
 rw [List.append_nil] at hl ⊢
 exact .of_eq (h us hl)
noncomputable def aM7 (CX : CXT) (X : Cx) (E : XK) : Prop:=∀ (pins : List (Addr × Obj)) (σ : St) (H : Hp) (s : Shared) (e : Value) (s' : Shared),Inv X pins σ H s → CX X.stack H s E e s' → X.xe e s'
section
variable {X : Cx} {CX : CXT} {k : Nat} {f C : Addr} {fd : FuncData} {ps : List Str} {sp : Sp} {dvs : List V} {ds : List Value} {E : XK} {x m : Str} {p pos apos : Pos} {e o : Expr} {es : List Expr} {ta : TE} {t : TA}
theorem bv1 {pins : List (Addr × Obj)} {σ : St} {H : Hp} {s : Shared} {Q : VK} {us : List Value} {vs : List V} (F : FnOk X.prog X.w X.K X.mg X.base CX k f fd ps sp) (hr : Room k X.A) (hb : k7 X.K fd ps ds) (hd : F6 dvs ds) (hx : aM7 CX X E)
  (I : Inv X pins σ H s) (r : F6 vs us) (h : sp (vs ++ dvs) H Q E) : wpAny (model X.prog X.w) X.A (call (.ref f) us) (EP X pins σ Q) X.xe s:=by
 have r2 : F6 (vs ++ dvs) (us ++ ds):=r.append hd
 have hl : (us ++ ds).length = ps.length:=by rw [← r2.length]; exact F.len _ _ _ _ h
 refine wpAny_call (codeAny_mono (F.run X.A X.stack s H ⟨us,[]⟩ (us ++ ds) (vs ++ dvs) Q E hr I.env0 (hb s us I.kIn hl) r2 h) fun r s' hq=>?_)
 cases r with
 | error e=>exact hx pins σ H s e s' I hq
 | ok fl =>
  cases fl with
  | ret u=>exact I.after hq
  | next=>exact False.elim hq
  | brk=>exact False.elim hq
  | cont=>exact False.elim hq
theorem bJ2 (F : FnOk X.prog X.w X.K X.mg X.base CX k f fd ps sp) (hr : Room k X.A) (hg : Gl X x) (hm : X.mg x = some (.ref f)) (hk : PySem.W.keepIn X.K (.ref f) = true) (hb : k7 X.K fd ps ds) (hd : F6 dvs ds) (hx : aM7 CX X E)
  (ha : PA X (e :: es) t) (hdb : (x == ("__debug__" : Str)) = false:=by decide) (he : starEach (e :: es) X.env = (false,eval e X.env) :: starEach es X.env:=by rfl) (hpl : (backTo pos (starEach es X.env)).any (·.1) = false:=by rfl) :
  PE X (.Call (.Name x p) (e :: es) [] pos) (bR4 sp dvs E t):=by
 intro pins s σ H Q I h
 refine wpAny_Call_Name_kw (aJ8 I hg hm ?_ hdb)
 refine PySem.W.callWith_K (h₀:=X.base) I.ok.mod.kin hk (thn (ha pos pins s σ H _ I h) fun us s1 ⟨vs,H1,I1,r,q⟩=>⟨I1.kIn,?_⟩) he hpl
 exact bv1 F hr hb hd hx I1 r q
theorem bw4 (F : FnOk X.prog X.w X.K X.mg X.base CX k f fd ps sp) (hr : Room k X.A) (hg : Gl X x) (hm : X.mg x = some (.ref f)) (hk : PySem.W.keepIn X.K (.ref f) = true) (hb : k7 X.K fd ps ds) (hd : F6 dvs ds) (hx : aM7 CX X E)
  (hdb : (x == ("__debug__" : Str)) = false:=by decide) : PE X (.Call (.Name x p) [] [] pos) (bR4 sp dvs E co0):=by
 intro pins s σ H Q I h
 refine wpAny_Call_Name_kw (aJ8 I hg hm ?_ hdb)
 exact PySem.W.callWith_K0 I.kIn hk (bv1 (us:=[]) F hr hb hd hx I .nil h)
end
section
variable {X : Cx} {CX : CXT} {k : Nat} {f C : Addr} {fd : FuncData} {ps ks : List Str} {sp : Sp} {E : XK} {x m : Str} {p pos apos kpos : Pos} {e o : Expr} {es : List Expr} {kws : List Keyword} {te ta : TE} {t tk : TA} {nm : Option Str}
variable {g : List Value → List Value → List Value} {gV : List V → List V → List V}
end
structure FnScope (N P : List Str) (sc : Scope) : Prop where
 kind : sc.kind = .function
 co : sc.isCoroutine = false
 gen : sc.isGenerator = false
 nd : N.Nodup
 pre : N.take P.length = P
 par : ∀ x ∈ P,sc.names.lookup x = some .local ∨ sc.names.lookup x = some .cell
 nofree : ∀ y ∈ sc.names,y.2 ≠ .free
theorem aF7 {kindOf : Str → Option NameKind} {x : Str} : ∀ {binds : List (Str × Value)} {m : Str → Option Value},(∀ v,(x,v) ∉ binds) → bindL kindOf binds m x = m x
 | [],_,_=>rfl
 | (n,v) :: r,m,h=>by
  unfold bindL
  rw [aF7 fun w hw=>h w (List.mem_cons_of_mem _ hw)]
  split
  ·have : x ≠ n:=by rintro rfl; exact h v List.mem_cons_self
   simp [this]
  ·rfl
theorem aF9 {kindOf : Str → Option NameKind} {x : Str} : ∀ {binds : List (Str × Value)} {m : Str → Option Value},(∀ v,(x,v) ∉ binds) → bindC kindOf binds m x = m x
 | [],_,_=>rfl
 | (n,v) :: r,m,h=>by
  unfold bindC
  rw [aF9 fun w hw=>h w (List.mem_cons_of_mem _ hw)]
  split
  ·rfl
  ·have : x ≠ n:=by rintro rfl; exact h v List.mem_cons_self
   simp [this]
theorem aF8 {kindOf : Str → Option NameKind} {x : Str} {v : Value} : ∀ {P : List Str} {vs : List Value} {i : Nat} {m : Str → Option Value},P.Nodup → P[i]? = some x → vs[i]? = some v → kindOf x = some .local →
  bindL kindOf (P.zip vs) m x = some v
 | [],_,_,_,_,h,_,_=>by simp at h
 | _ :: _,[],_,_,_,_,h,_=>by simp at h
 | p :: P,w :: vs,0,m,nd,h1,h2,hk=>by
  simp at h1 h2; subst h1; subst h2
  show bindL kindOf ((p,w) :: P.zip vs) m p = _
  unfold bindL
  rw [aF7 fun v hv=>(List.nodup_cons.mp nd).1 (List.of_mem_zip hv).1,if_pos hk]
  simp
 | p :: P,w :: vs,i + 1,m,nd,h1,h2,hk=>by
  show bindL kindOf ((p,w) :: P.zip vs) m x = _
  unfold bindL
  exact aF8 (i:=i) (List.nodup_cons.mp nd).2 (by simpa using h1) (by simpa using h2) hk
theorem aG0 {kindOf : Str → Option NameKind} {x : Str} {v : Value} : ∀ {P : List Str} {vs : List Value} {i : Nat} {m : Str → Option Value},P.Nodup → P[i]? = some x → vs[i]? = some v → kindOf x ≠ some .local →
  bindC kindOf (P.zip vs) m x = some v
 | [],_,_,_,_,h,_,_=>by simp at h
 | _ :: _,[],_,_,_,_,h,_=>by simp at h
 | p :: P,w :: vs,0,m,nd,h1,h2,hk=>by
  simp at h1 h2; subst h1; subst h2
  show bindC kindOf ((p,w) :: P.zip vs) m p = _
  unfold bindC
  rw [aF9 fun v hv=>(List.nodup_cons.mp nd).1 (List.of_mem_zip hv).1,if_neg hk]
  simp
 | p :: P,w :: vs,i + 1,m,nd,h1,h2,hk=>by
  show bindC kindOf ((p,w) :: P.zip vs) m x = _
  unfold bindC
  exact aG0 (i:=i) (List.nodup_cons.mp nd).2 (by simpa using h1) (by simpa using h2) hk
noncomputable def o7 (N : List Str) (vs : List V) : St:=vs.map some ++ List.replicate (N.length - vs.length) none
noncomputable def ba8 (CX : CXT) (P : Program) (w : World) (K : PySem.W.Frag) (mg : Str → Option Value) (base : Heap) (N : List Str) (qual : Str) (scope : Scope) (f : Addr) (cd : Value) (A : Around) (outer : List Env) (s : Shared) (H : Hp) (E : XK) : Cx where
 prog:=P
 w:=w
 K:=K
 mg:=mg
 base:=base
 A:=A.deeper (envOfC qual scope s.heap.objs.size f cd)
 N:=N
 s₀:=s
 H₀:=H
 env:=envOfC qual scope s.heap.objs.size f cd
 outer:=outer
 stack:=envOfC qual scope s.heap.objs.size f cd :: outer
 ex:=[]
 calm:=true
 fn:=fun _=>true
 pn:=[]
 xe:=fun e s'=>wpAny (model P w) (A.deeper (envOfC qual scope s.heap.objs.size f cd)) (leaving (envOfC qual scope s.heap.objs.size f cd) e) (fun _ s''=>CX outer H s E e s'') (fun e' s''=>CX outer H s E e' s'') s'
theorem aT7 {sc : Scope} {n : Nat} {x : Str} (h : sc.names.lookup x = some .cell) : ∃ c,(cellsFrom n sc.names []).lookup x = some c:=by
 have q:=PySem.W.cellsFrom_some sc.names n [] (.inl h)
 exact Option.isSome_iff_exists.mp q
theorem bn4 {CX : CXT} {P : Program} {w : World} {K : PySem.W.Frag} {mg : Str → Option Value} {base : Heap} {N ps : List Str} {qual : Str} {scope : Scope} {f : Addr} {cd : Value} {A : Around} {outer : List Env} {s s1 : Shared} {H : Hp} {E : XK} {us : List Value} {vs : List V}
  (S : FnScope N ps scope) (hd : A.handled = none) (e0 : Env0 P w K mg base A outer s H) (hl : vs.length = ps.length) (r : F6 vs us)
  (x : InCallC s s.heap.objs.size (bindL (envOfC qual scope s.heap.objs.size f cd).kindOf (ps.zip us) fun _=>none) (cellsFrom (s.heap.objs.size + 1) scope.names []) (bindC (envOfC qual scope s.heap.objs.size f cd).kindOf (ps.zip us) fun _=>none) s1) :
  Inv (ba8 CX P w K mg base N qual scope f cd A outer s H E) [] (o7 N vs) H s1:=by
 have hpl : ps.length ≤ N.length:=by have:=congrArg List.length S.pre; rw [List.length_take] at this; omega
 obtain ⟨h1,tk,rfl,hk⟩:=x.done
 have noA : ∀ b : Addr,b ∉ (ba8 CX P w K mg base N qual scope f cd A outer s H E).ex:=fun b z=>absurd (show b ∈ ([] : List Addr) from z) (by simp)
 refine ⟨⟨e0.mod,S.kind,rfl,rfl,Nat.le_refl _,fun y z c h1 h2=>?_,fun y hy=>?_,fun y c _ h=>?_,fun _=>hd,Around.frames_deeper e0.frames,.inr ⟨rfl,rfl⟩,fun b z=>absurd z (noA b),e0.bs,e0.bsz,fun b _ _=>noA b,fun b z=>absurd z (noA b),e0.funs,e0.frf⟩,
  rfl,e0.bare,Un.kept hk,⟨_,x.toInCall.ns,fun i y v h1 h2 h3=>?_⟩,fun y c h=>⟨_,x.cell y c h⟩,e0.hok.fresh (Nat.le_refl _),fun y c h=>?_,fun p hp=>absurd (show p ∈ ([] : List (Addr × Obj)) from hp) (by simp),e0.hok.kept hk,?_⟩
 ·exact name_of_addr x.apart (PySem.mem_of_lookup h1) (PySem.mem_of_lookup h2)
 ·have hy : scope.names.lookup y = some .cell ∨ scope.names.lookup y = some .free:=hy
  rcases hy with hy | hy
  ·exact aT7 hy
  ·exact absurd rfl (S.nofree _ (PySem.mem_of_lookup hy))
 ·exact Nat.le_of_lt (x.above y c (PySem.mem_of_lookup h))
 ·have hi : i < vs.length:=by
   unfold o7 at h2
   by_cases hi : i < vs.length
   ·exact hi
   ·rw [List.getElem?_append_right (by simpa using hi)] at h2
    rw [List.getElem?_replicate] at h2
    split at h2 <;> cases h2
  have ha : vs[i]? = some v:=by
   unfold o7 at h2
   rw [List.getElem?_append_left (by simpa using hi),List.getElem?_map] at h2
   cases e : vs[i]? with
   | none=>rw [e] at h2; cases h2
   | some a=>rw [e] at h2; cases h2; rfl
  obtain ⟨u,hu,rv⟩:=r.get ha
  have hp : ps[i]? = some y:=by
   rw [← S.pre,List.getElem?_take_of_lt (by omega)]; exact h1
  have ndP : ps.Nodup:=by rw [← S.pre]; exact S.nd.sublist (List.take_sublist _ _)
  refine ⟨u,rv,?_⟩
  rcases S.par y (List.mem_of_getElem? hp) with k | k
  ·exact .inl ⟨k,aF8 ndP hp hu k⟩
  ·obtain ⟨c,e⟩:=aT7 (n:=s.heap.objs.size + 1) k
   refine .inr ⟨.inl k,c,e,?_⟩
   have q:=x.cell y c e
   rw [aG0 ndP hp hu (by show scope.names.lookup y ≠ _; rw [k]; decide)] at q
   exact q
 ·exact e0.hok.fresh (Nat.le_of_lt (x.above y c (PySem.mem_of_lookup h)))
 ·unfold o7
  show _ = N.length
  rw [List.length_append,List.length_map,List.length_replicate]
  omega
theorem aS1 {CX : CXT} {P : Program} {w : World} {K : PySem.W.Frag} {mg : Str → Option Value} {base : Heap} {k : Nat} {f : Addr} {name qual : Str} {params : Arguments} {body : List Stmt} {scope : Scope} {dV kV doc pm cdv ct oc : Value} {an od : Option Addr}
  {osl : Array (Option Value)} {N ps : List Str} {sp : Sp} (lk : K.lookup f = some ⟨oc,od,.func (PySem.W.fnOf name qual params body scope dV kV doc pm an cdv ct),osl⟩) (hcd : PySem.W.codeIn K cdv qual = true) (S : FnScope N ps scope)
  (len : ∀ vs H Q E,sp vs H Q E → vs.length = ps.length)
  (hbody : ∀ (A : Around) (outer : List Env) (s : Shared) (H : Hp) (vs : List V) (Q : VK) (E : XK),Room k (A.deeper (envOfC qual scope s.heap.objs.size f cdv)) → sp vs H Q E →
   ∃ t,PSs (ba8 CX P w K mg base N qual scope f cdv A outer s H E) body t ∧ t { nx:=fun _ H'=>Q .non H',rt:=Q } (o7 N vs) H) :
  FnOk P w K mg base CX (k + 1) f (PySem.W.fnOf name qual params body scope dV kV doc pm an cdv ct) ps sp:=by
 refine ⟨len,fun A outer s H args us vs Q E hr e0 hb r hsp=>?_⟩
 have hl:=len _ _ _ _ hsp
 have KX : K.In s.heap:=e0.mod.kin.keeps fun b o e=>(e0.bs b o e).1
 have lim : s.heap.NoLimit:=e0.mod.nolimit.keeps fun b o e=>(e0.bs b o e).1
 have hkind : ∀ y ∈ ps.zip us,scope.names.lookup y.1 = some .local ∨ (scope.names.lookup y.1 = some .cell ∧ ((cellsFrom (s.heap.objs.size + 1) scope.names []).lookup y.1).isSome = true):=fun ⟨n,v⟩ hy=>by
  rcases S.par n (List.of_mem_zip hy).1 with q | q
  ·exact .inl q
  ·exact .inr ⟨q,PySem.W.cellsFrom_some _ _ _ (.inl q)⟩
 refine codeAny_call_function hr.depth (KX _ _ lk) rfl S.co S.gen rfl (PySem.W.codeRec_of KX hcd) (hb _ _ _ _ ?_)
 refine wpAny_newFunctionEnv_cells S.kind hkind fun env he s1 x=>?_
 subst he
 refine ⟨lim.keeps x.toInCall.keep,codeAny_func ?_⟩
 obtain ⟨t,ht,hq⟩:=hbody A outer s H vs Q E (hr.deeper _) hsp
 have I : Inv (ba8 CX P w K mg base N qual scope f cdv A outer s H E) [] (o7 N vs) H s1:=bn4 S hr.hd e0 hl r x
 refine wpAny_mono (ht [] s1 (o7 N vs) H _ I hq) (fun fl s' hs=>?_) fun e s' hs=>hs
 have fin : ∀ {σ' : St} {H' : Hp} {v : V} {u : Value},Inv (ba8 CX P w K mg base N qual scope f cdv A outer s H E) [] σ' H' s' → K8 v u → Q v H' → CE outer P w H s Q u s' :=
  fun {σ' H' v u} J rv q=>⟨v,H',J.os,J.bare,J.base,J.hok,rv,q⟩
 cases fl with
 | ret u =>
  obtain ⟨v,σ',H',J,rv,q⟩:=hs
  exact fin J rv q
 | next =>
  obtain ⟨σ',H',J,q⟩:=hs
  exact fin (v:=V.non) (u:=Value.none) J rfl q
 | brk =>
  obtain ⟨_,_,_,q⟩:=hs
  exact False.elim q
 | cont =>
  obtain ⟨_,_,_,q⟩:=hs
  exact False.elim q
end L2
namespace L2
open PySem PySem.Spec PyProof.Rows
section
variable {X : Cx} {x : Str} {p pos : Pos} {e : Expr} {es : List Expr} {t : TA} {id T : String} {r : List V → Hp → VK → Prop}
noncomputable def tCB (r : List V → Hp → VK → Prop) (t : TA) : TE:=fun σ H Q=>t σ H fun vs H1=>r vs H1 Q
theorem P8 (hc : U2 X (.builtin id) r) (hg : Gl X x) (hm : X.mg x = none) (hv : bootBuiltins x = some (.builtin id)) (ha : PA X (e :: es) t) (hn : x ≠ "__name__" := by decide) (hdb : (x == ("__debug__" : Str)) = false:=by decide)
  (he : starEach (e :: es) X.env = (false,eval e X.env) :: starEach es X.env:=by rfl) (hpl : (backTo pos (starEach es X.env)).any (·.1) = false:=by rfl) : PE X (.Call (.Name x p) (e :: es) [] pos) (tCB r t):=by
 intro pins s σ H Q I h
 refine wpAny_Call_Name_kw (ae1 I hg hm hv ?_ hn hdb)
 exact PyProof.Rows.callWith_builtin1 (thn (ha pos pins s σ H _ I h) fun us s1 ⟨vs,H1,I1,r1,q1⟩=>hc pins s1 σ H1 vs us Q I1 r1 q1) he hpl
theorem U5 (hc : U2 X (.type T) r) (hg : Gl X x) (hm : X.mg x = none) (hv : bootBuiltins x = some (.type T)) (ha : PA X (e :: es) t) (hn : x ≠ "__name__" := by decide) (hdb : (x == ("__debug__" : Str)) = false:=by decide)
  (he : starEach (e :: es) X.env = (false,eval e X.env) :: starEach es X.env:=by rfl) (hpl : (backTo pos (starEach es X.env)).any (·.1) = false:=by rfl) : PE X (.Call (.Name x p) (e :: es) [] pos) (tCB r t):=by
 intro pins s σ H Q I h
 refine wpAny_Call_Name_kw (ae1 I hg hm hv ?_ hn hdb)
 exact PyProof.Rows.callWith_type1 (thn (ha pos pins s σ H _ I h) fun us s1 ⟨vs,H1,I1,r1,q1⟩=>hc pins s1 σ H1 vs us Q I1 r1 q1) he hpl
end
end L2
namespace HT
open PySem PyProof.Rows
section
open PySem.SeqAt
open PySem.AutoSeq1 (wpAny_loadPart')
open PySem.MeetsSeq PySem.MeetsSeq2 PySem.MeetsSeq3
end
section
variable {prog : Program} {w : World} {A : Around} {E : Value → Shared → Prop} {s : Shared}
theorem cat_tup {t b : Addr} {vs ws : List Value} {Q : Value → Shared → Prop} (ht : IsTup s.heap t vs.toArray) (hb : IsTup s.heap b ws.toArray) (hv : vs ≠ [])
  (h1 : ws = [] → Q (.ref t) s) (h2 : ws ≠ [] → Q (.ref s.heap.objs.size) { s with heap:=s.heap.push { cls:=.type "tuple", data:=.seq (vs ++ ws).toArray } })
  (hsz : vs.length + ws.length ≤ sizeLine) : wpAny (model prog w) A (binaryOp .Add (.ref t) (.ref b)) Q E s:=by
 obtain ⟨⟨cls,dd,data,sl⟩,ho,hc,n,hd⟩:=id ht
 obtain ⟨⟨cls2,dd2,data2,sl2⟩,ho2,hc2,n2,hd2⟩:=id hb
 simp only at hc hd hc2 hd2
 subst hc hd hc2 hd2
 have e : vs.toArray ++ ws.toArray = (vs ++ ws).toArray:=by simp
 by_cases hw : ws = []
 ·exact concat_meets ⟨_,ho,rfl⟩ ⟨_,ho2,rfl⟩ noFill_tuple_add seq_tuple_add PySem.F.slot_tuple_add PySem.F.entry_tuple_add (PySem.F.args_tuple_add_2 _ _)
   (tuple_addW1 t b vs.toArray ws.toArray n n2 dd dd2 sl sl2 (by simpa using hv) (by simp [hw])) ⟨ho,ho2,h1 hw⟩
 ·refine concat_meets ⟨_,ho,rfl⟩ ⟨_,ho2,rfl⟩ noFill_tuple_add seq_tuple_add PySem.F.slot_tuple_add PySem.F.entry_tuple_add (PySem.F.args_tuple_add_2 _ _)
   (tuple_addW2 t b vs.toArray ws.toArray n n2 dd dd2 sl sl2 (by simpa using hv) (by simpa using hw) (by rw [List.size_toArray,List.size_toArray]; exact hsz)) ⟨ho,ho2,?_⟩
  rw [e]
  exact h2 hw
noncomputable def sIx (n d : Nat) : Option Int → Nat
 | none=>d
 | some v=>if v < 0 then (v + (n : Int)).toNat else min v.toNat n
theorem sIx_none (n d : Nat) : sIx n d none = d:=rfl
theorem sIx_nat (n d k : Nat) : sIx n d (some (k : Int)) = min k n:=by
 show (if (k : Int) < 0 then ((k : Int) + (n : Int)).toNat else min (k : Int).toNat n) = min k n
 rw [if_neg (by omega),Int.toNat_natCast]
theorem ca1 (n d : Nat) (hd : d ≤ n) (o : Option Int) : sIx n d o ≤ n:=by
 cases o with
 | none=>exact hd
 | some v =>
  show (if v < 0 then (v + (n : Int)).toNat else min v.toNat n) ≤ n
  by_cases hv : v < 0
  ·rw [if_pos hv]; omega
  ·rw [if_neg hv]; exact Nat.min_le_right _ _
theorem bh3 (v : Int) (n d : Nat) : (if v < 0 then max (v + (n : Int)) 0 else min v (n : Int)) = ((sIx n d (some v) : Nat) : Int):=by
 show (if v < 0 then max (v + (n : Int)) 0 else min v (n : Int)) = (((if v < 0 then (v + (n : Int)).toNat else min v.toNat n) : Nat) : Int)
 by_cases hv : v < 0
 ·simp only [if_pos hv]; omega
 ·simp only [if_neg hv]; omega
theorem bc8 (lo hi : Option Int) (n : Nat) : Builtin.Slice.sliceAdjust lo hi 1 (n : Int) = (((sIx n 0 lo : Nat) : Int),((sIx n n hi : Nat) : Int)):=by
 have h1 : ¬ ((1 : Int) < 0):=by omega
 unfold Builtin.Slice.sliceAdjust
 simp only [h1,if_false]
 refine Prod.ext ?_ ?_
 ·cases lo with
  | none=>rfl
  | some v=>exact bh3 v n 0
 ·cases hi with
  | none=>rfl
  | some v=>exact bh3 v n n
theorem aX3 (i j : Nat) : Builtin.Slice.slicePlaces (i : Int) (j : Int) 1 = j - i:=by
 unfold Builtin.Slice.slicePlaces
 have h1 : (1 : Int) > 0:=by omega
 simp only [h1,if_true,Int.ediv_one]
 split <;> omega
theorem aw5 {v : Value} {o : Option Int} {Q : Option Int → Shared → Prop} (p : IsPart v o) (h : Q o s) : wpAny (model prog w) A (Builtin.Slice.slicePartIndex v) Q E s:=by
 cases p with
 | none=>exact slicePart_none h
 | int i t=>exact slicePart_int h
theorem sliceApplied_gen {sl : Addr} {vl vu : Value} {lo hi : Option Int} {n : Nat} {Q : Int × Int × Nat → Shared → Prop} (hs : s.heap.IsSliceOf sl vl vu .none) (pl : IsPart vl lo) (pu : IsPart vu hi)
  (h : Q (((sIx n 0 lo : Nat) : Int),1,sIx n n hi - sIx n 0 lo) s) : wpAny (model prog w) A (Builtin.Slice.sliceApplied (.ref sl) (pure (n : Int))) Q E s:=by
 obtain ⟨os,hos,hcs,hds⟩:=id hs
 unfold Builtin.Slice.sliceApplied Builtin.Slice.sliceFields
 refine wpAny_bind (wpAny_bind (wpAny_field hos hds (x:=vl) rfl (wpAny_bind (wpAny_field hos hds (x:=vu) rfl (wpAny_bind (wpAny_field hos hds (x:=.none) rfl (wpAny_pure ?_)))))))
 refine wpAny_bind (slicePart_none ?_)
 show wpAny _ _ (if ((1 : Int) == 0) = true then _ else _) _ _ s
 rw [if_neg (by decide)]
 refine wpAny_bind (aw5 pl (wpAny_bind (aw5 pu (wpAny_bind (wpAny_pure ?_)))))
 show wpAny _ _ (match Builtin.Slice.sliceAdjust lo hi 1 (n : Int) with | (lo,hi)=>pure (lo,(1 : Int),Builtin.Slice.slicePlaces lo hi 1)) _ _ s
 rw [bc8 lo hi n]
 show wpAny _ _ (pure (((sIx n 0 lo : Nat) : Int),(1 : Int),Builtin.Slice.slicePlaces ((sIx n 0 lo : Nat) : Int) ((sIx n n hi : Nat) : Int) 1)) _ _ s
 rw [aX3]
 exact wpAny_pure h
theorem bw2 (xs : Array Value) (i k : Nat) : ((List.range k).filterMap fun (m : Nat)=>xs[((i : Int) + (m : Int) * 1).toNat]?).toArray = ((xs.toList.drop i).take k).toArray:=by
 have e : (fun (m : Nat)=>xs[((i : Int) + (m : Int) * 1).toNat]?) = fun m=>xs[i + m]?:=by
  funext m
  have : ((i : Int) + (m : Int) * 1).toNat = i + m:=by omega
  rw [this]
 rw [e]
 have:=pick_run xs i k
 rw [List.filterMap_map] at this
 have e2 : ((fun x=>xs[x]?) ∘ fun x=>i + x) = fun m=>xs[i + m]?:=rfl
 rw [e2] at this
 rw [this]
theorem getItem_tuple_cut {t sl : Addr} {items : Array Value} {vl vu : Value} {lo hi : Option Int} {Q : Value → Shared → Prop} (ht : IsTup s.heap t items) (hs : s.heap.IsSliceOf sl vl vu .none) (pl : IsPart vl lo) (pu : IsPart vu hi)
  (hw : ¬ (sIx items.size 0 lo = 0 ∧ sIx items.size items.size hi = items.size))
  (h : Q (.ref s.heap.objs.size) { s with heap:=s.heap.push { cls:=.type "tuple", data:=.seq ((items.toList.drop (sIx items.size 0 lo)).take (sIx items.size items.size hi - sIx items.size 0 lo)).toArray } })
  (hsz : items.size ≤ sizeLine) : wpAny (model prog w) A (getItem (.ref t) (.ref sl)) Q E s:=by
 have htake : sizeOk (.seq ((items.toList.drop (sIx items.size 0 lo)).take (sIx items.size items.size hi - sIx items.size 0 lo)).toArray):=by
  show ((items.toList.drop (sIx items.size 0 lo)).take (sIx items.size items.size hi - sIx items.size 0 lo)).toArray.size ≤ sizeLine
  rw [List.size_toArray,List.length_take,List.length_drop,Array.length_toList]
  omega
 have hj : sIx items.size items.size hi ≤ items.size:=ca1 _ _ (Nat.le_refl _) hi
 obtain ⟨os,hos,hcs,hds⟩:=id hs
 have hTs : s.TypeIs (.ref sl) "slice" := ⟨os,hos,hcs⟩
 unfold getItem
 try with_reducible refine wpAny_holding ?_
 first | refine wpAny_bind (wpAny_pure ?_) | skip
 refine wpAny_bind (wpAny_sequenceKey ht.typeIs (by decide) ?_)
 refine wpAny_bind (wpAny_callSpecial?_slot (name:=Str.ofString "__getitem__") ht.typeIs PyProof.Rows.slot_tuple_getitem
  (wpAny_call_entry PyProof.Rows.slot_tuple_getitem ht.typeIs entry_tuple_getitem ?_ (args_tuple_getitem _ _)))
 show wpAny _ _ (Builtin.Tuple.tupleItemsOf (.ref t) >>= _) _ _ s
 refine wpAny_bind (tupleItemsOf_ ht ?_)
 refine wpAny_bind (wpAny_typeOf hTs ?_)
 rw [if_pos (by decide)]
 refine wpAny_bind (sliceApplied_gen hs pl pu ?_)
 have hno : ¬ ((((sIx items.size 0 lo : Nat) : Int) == 0 && (1 : Int) == 1 && (sIx items.size items.size hi - sIx items.size 0 lo) == items.size) = true):=by
  intro q
  rw [Bool.and_eq_true,Bool.and_eq_true] at q
  have q1 : ((sIx items.size 0 lo : Nat) : Int) = 0:=eq_of_beq q.1.1
  have q2 : sIx items.size items.size hi - sIx items.size 0 lo = items.size:=eq_of_beq q.2
  exact hw ⟨by omega,by omega⟩
 show wpAny _ _ (if (((sIx items.size 0 lo : Nat) : Int) == 0 && (1 : Int) == 1 && (sIx items.size items.size hi - sIx items.size 0 lo) == items.size) = true then _ else _) _ _ s
 rw [if_neg hno,bw2]
 first
  | exact wpAny_bind (m:=Builtin.Tuple.tupleExact _) (wpAny_newObj_type (wpAny_pure ⟨_,rfl,wpAny_pure h⟩) htake)
  | exact wpAny_bind (m:=Builtin.Tuple.tupleExact _) (wpAny_newObj_type (wpAny_bind (wpAny_pure (wpAny_pure ⟨_,rfl,wpAny_pure h⟩))) htake)
  | exact wpAny_bind (wpAny_bind (m:=Builtin.Tuple.tupleExact _) (wpAny_newObj_type (wpAny_pure (wpAny_pure ⟨_,rfl,wpAny_pure h⟩)) htake))
  | exact wpAny_bind (wpAny_bind (m:=Builtin.Tuple.tupleExact _) (wpAny_newObj_type (wpAny_pure ⟨_,rfl,wpAny_pure h⟩) htake))
end
end HT
namespace L2
open PySem PySem.Spec PyProof.Rows
noncomputable abbrev TO:=St → Hp → (Option Int → Hp → Prop) → Prop
noncomputable def PO (X : Cx) (e : Option Expr) (t : TO) : Prop :=
 ∀ (pins : List (Addr × Obj)) (s : Shared) (σ : St) (H : Hp) (Q : Option Int → Hp → Prop),Inv X pins σ H s → t σ H Q →
  wpAny (model X.prog X.w) X.A (evalPart e X.env) (fun u s'=>∃ o H',Inv X pins σ H' s' ∧ IsPart u o ∧ Q o H') X.xe s
noncomputable def bG7 : TO:=fun _ H Q=>Q none H
noncomputable def cn8 (t : TE) : TO:=fun σ H Q=>t σ H fun x H1=>∃ i,x = .int i ∧ Q (some i) H1
section
variable {X : Cx} {e : Expr} {te : TE} {lo hi : Option Expr} {tl th : TO} {pos p2 : Pos}
theorem bI6 : PO X none bG7:=by
 intro pins s σ H Q I h
 rw [evalPart_none]
 exact wpAny_pure ⟨none,H,I,.none,h⟩
theorem bI5 (h : PE X e te) : PO X (some e) (cn8 te):=by
 intro pins s σ H Q I hw
 rw [evalPart_some]
 refine thn (h pins s σ H _ I hw) fun u s1 ⟨x,H1,I1,r1,q1⟩=>?_
 obtain ⟨i,rfl,q⟩:=q1
 obtain ⟨t,rfl⟩:=r1
 exact ⟨some i,H1,I1,.int i t,q⟩
noncomputable def SlR (X : Cx) (r : V → Option Int → Option Int → Hp → VK → Prop) : Prop :=
 ∀ (pins : List (Addr × Obj)) (s : Shared) (σ : St) (H : Hp) (x : V) (v vl vu : Value) (lo hi : Option Int) (sl : Addr) (Q : VK),Inv X pins σ H s → K8 x v → s.heap.IsSliceOf sl vl vu .none → IsPart vl lo → IsPart vu hi → r x lo hi H Q →
  ∃ T id,typeLookup (.type T) "__getitem__" = pure (some (.builtin id)) ∧ s.TypeIs v T ∧ wpAny (model X.prog X.w) X.A (getItem v (.ref sl)) (EP X pins σ Q) X.xe s
theorem SlR.or {r r' : V → Option Int → Option Int → Hp → VK → Prop} (h : SlR X r) (h' : SlR X r') : SlR X (fun x lo hi H Q=>r x lo hi H Q ∨ r' x lo hi H Q):=by
 intro pins s σ H x v vl vu lo hi sl Q I rx hs pl pu q
 rcases q with q | q
 ·exact h pins s σ H x v vl vu lo hi sl Q I rx hs pl pu q
 ·exact h' pins s σ H x v vl vu lo hi sl Q I rx hs pl pu q
noncomputable def tSl (r : V → Option Int → Option Int → Hp → VK → Prop) (te : TE) (tl th : TO) : TE:=fun σ H Q=>te σ H fun x H1=>tl σ H1 fun l H2=>th σ H2 fun u H3=>r x l u H3 Q
theorem an4 {r : V → Option Int → Option Int → Hp → VK → Prop} (hr : SlR X r) (he : PE X e te) (hl : PO X lo tl) (hu : PO X hi th) : PE X (.Subscript e (.Slice lo hi none p2) pos) (tSl r te tl th):=by
 intro pins s σ H Q I h
 refine Subscript_ (thn (he pins s σ H _ I h) fun v s1 ⟨x,H1,I1,r1,q1⟩=>?_)
 refine wpAny_Slice (thn (hl pins s1 σ H1 _ I1 q1) fun vl s2 ⟨l,H2,I2,pl,q2⟩=>thn (hu pins s2 σ H2 _ I2 q2) fun vu s3 ⟨u,H3,I3,pu,q3⟩=>?_)
 rw [evalPart_none]
 refine wpAny_pure ?_
 have I4 : Inv X pins σ H3 { s3 with heap:=s3.heap.push { cls:=.type "slice", data:=.fields #[vl,vu,.none] } }:=I3.kept (t':=s3.toks) fun b ob q=>Heap.get?_push_of_some _ q
 obtain ⟨T,id,hT,ht,hg⟩:=hr pins { s3 with heap:=s3.heap.push { cls:=.type "slice", data:=.fields #[vl,vu,.none] } } σ H3 x v vl vu l u s3.heap.objs.size Q I4 r1 (Heap.IsSliceOf.new ..) pl pu q3
 show wpAny (model X.prog X.w) X.A (subscriptTail e (.Slice lo hi none p2) v (.ref s3.heap.objs.size)) (EP X pins σ Q) X.xe { s3 with heap:=s3.heap.push { cls:=.type "slice", data:=.fields #[vl,vu,.none] } }
 exact tail_any (ops:=[.ref s3.heap.objs.size,v]) ht hT hg (by with_unfolding_all rfl)
noncomputable def aT5 (xs : List V) (lo hi : Option Int) : List V:=(xs.drop (HT.sIx xs.length 0 lo)).take (HT.sIx xs.length xs.length hi - HT.sIx xs.length 0 lo)
theorem at8 (xs : List V) (lo hi : Option Int) : (aT5 xs lo hi).length ≤ xs.length:=by
 unfold aT5
 rw [List.length_take,List.length_drop]
 omega
noncomputable def cw0 (K : PySem.W.Frag) : V → Option Int → Option Int → Hp → VK → Prop:=fun x lo hi H Q=>∃ a xs,x = .ref a ∧ SqT K H a xs ∧
 ¬ (HT.sIx xs.length 0 lo = 0 ∧ HT.sIx xs.length xs.length hi = xs.length) ∧ ∀ p,H p = none → Q (.ref p) (upd H p (.tup (aT5 xs lo hi)))
theorem bZ8 : SlR X (cw0 X.K):=by
 intro pins s σ H x v vl vu lo hi sl Q I rx hs pl pu h
 obtain ⟨a,xs,rfl,hx,hw,q⟩:=h
 cases rx
 obtain ⟨its,r,ht,hz⟩:=I.tuple hx
 have hlen : its.toArray.size = xs.length:=by rw [List.size_toArray]; exact r.length.symm
 refine ⟨"tuple", _,PyProof.Rows.slot_tuple_getitem.lookup,ht.typeIs,?_⟩
 refine HT.getItem_tuple_cut ht hs pl pu (by rw [hlen]; exact hw) ?_ (by rw [hlen]; exact hz)
 rw [hlen]
 refine ⟨.ref s.heap.objs.size,_,I.laid (t':=s.toks) (o:=.tup (aT5 xs lo hi)) (fun b ob q=>Heap.get?_push_of_some _ q) (Nat.le_refl _) ?_,rfl,q _ (I.hok.fresh (Nat.le_refl _))⟩
 exact ⟨Nat.le_trans (at8 xs lo hi) hz,_,(r.drop (HT.sIx xs.length 0 lo)).take (HT.sIx xs.length xs.length hi - HT.sIx xs.length 0 lo),IsTup.new _ _⟩
noncomputable def cp4 (K : PySem.W.Frag) : R2:=fun x y H Q=>∃ a b xs ys,x = .ref a ∧ y = .ref b ∧ SqT K H a xs ∧ SqT K H b ys ∧ xs ≠ [] ∧ xs.length + ys.length ≤ sizeLine ∧
 (ys = [] → Q (.ref a) H) ∧ (ys ≠ [] → ∀ p,H p = none → Q (.ref p) (upd H p (.tup (xs ++ ys))))
theorem F6.nil_iff {xs : List V} {us : List Value} (r : F6 xs us) : us = [] ↔ xs = []:=by
 cases r with
 | nil=>simp
 | cons _ _=>simp
theorem bJ8 : OpR X (binaryOp .Add) (cp4 X.K):=by
 intro pins s σ H x y v u Q I rx ry h
 obtain ⟨a,b,xs,ys,rfl,rfl,ha,hb,hx,hz,q1,q2⟩:=h
 cases rx
 cases ry
 obtain ⟨its,r1,p1,_⟩:=I.tuple ha
 obtain ⟨its2,r2,p2,_⟩:=I.tuple hb
 refine HT.cat_tup p1 p2 (fun z=>hx (r1.nil_iff.mp z)) (fun z=>⟨.ref a,H,I,rfl,q1 (r2.nil_iff.mp z)⟩) (fun z=>?_) (by rw [← r1.length,← r2.length]; exact hz)
 refine ⟨.ref s.heap.objs.size,_,I.laid (t':=s.toks) (o:=.tup (xs ++ ys)) (fun b ob q=>Heap.get?_push_of_some _ q) (Nat.le_refl _) ?_,rfl,q2 (fun w=>z (r2.nil_iff.mpr w)) _ (I.hok.fresh (Nat.le_refl _))⟩
 exact ⟨by rw [List.length_append]; exact hz,_,r1.append r2,IsTup.new _ _⟩
end
end L2
namespace L2
open PySem PySem.Spec PyProof.Rows
noncomputable def ixN (n : Nat) (i : Int) : Option Nat:=if 0 ≤ i then (if i < n then some i.toNat else none) else if -(n : Int) ≤ i then some (i + n).toNat else none
noncomputable def atI {α : Type} (xs : List α) (i : Int) : Option α:=(ixN xs.length i).bind fun j=>xs[j]?
theorem bP0 {n : Nat} {i : Int} {j : Nat} (h : ixN n i = some j) : seqIndex? i n = some j ∧ j < n ∧ -(n : Int) ≤ i ∧ i < n:=by
 unfold ixN at h
 by_cases h0 : 0 ≤ i
 ·rw [if_pos h0] at h
  by_cases h1 : i < n
  ·rw [if_pos h1] at h
   have e : i.toNat = j:=Option.some.inj h
   exact ⟨by rw [seqIndex_of h0 h1,e],by omega,by omega,h1⟩
  ·rw [if_neg h1] at h; cases h
 ·rw [if_neg h0] at h
  by_cases h1 : -(n : Int) ≤ i
  ·rw [if_pos h1] at h
   have e : (i + n).toNat = j:=Option.some.inj h
   exact ⟨by rw [seqIndex_neg (by omega) h1,e],by omega,h1,by omega⟩
  ·rw [if_neg h1] at h; cases h
theorem aM3 {α : Type} {xs : List α} {i : Int} {v : α} (h : atI xs i = some v) : ∃ j,seqIndex? i xs.length = some j ∧ xs[j]? = some v ∧ j < xs.length ∧ -(xs.length : Int) ≤ i ∧ i < xs.length:=by
 unfold atI at h
 cases e : ixN xs.length i with
 | none=>rw [e] at h; cases h
 | some j =>
  rw [e] at h
  obtain ⟨h1,h2,h3,h4⟩:=bP0 e
  exact ⟨j,h1,h,h2,h3,h4⟩
theorem O6 {α : Type} {xs : List α} {j : Nat} {v : α} (h : xs[j]? = some v) : atI xs (j : Int) = some v:=by
 have hj : j < xs.length:=(List.getElem?_eq_some_iff.mp h).1
 have e : ixN xs.length (j : Int) = some j:=by
  unfold ixN
  rw [if_pos (by omega),if_pos (by omega)]; simp
 unfold atI; rw [e]; exact h
noncomputable def av8 (b : Expr) : Prop:=∀ o i,subscripted b false o i = operate [o,i] (getItem o i)
noncomputable def IxR (X : Cx) (r : R2) : Prop :=
 ∀ (value slice : Expr) (pins : List (Addr × Obj)) (s : Shared) (σ : St) (H : Hp) (x y : V) (v u : Value) (Q : VK),Inv X pins σ H s → K8 x v → K8 y u → r x y H Q →
  subscripted slice false v u = operate [v,u] (getItem v u) → wpAny (model X.prog X.w) X.A (subscriptTail value slice v u) (EP X pins σ Q) X.xe s
noncomputable def MtR (X : Cx) (id : String) (r : V → List V → Hp → VK → Prop) : Prop :=
 ∀ (pins : List (Addr × Obj)) (s : Shared) (σ : St) (H : Hp) (x : V) (xs : List V) (v : Value) (us : List Value) (Q : VK),Inv X pins σ H s → K8 x v → F6 xs us → r x xs H Q →
  wpAny (model X.prog X.w) X.A (call (.builtin id) (v :: us)) (EP X pins σ Q) X.xe s
section
variable {X : Cx} {a b : Expr} {ta tb : TE} {pos : Pos}
theorem IxR.or {r r' : R2} (h : IxR X r) (h' : IxR X r') : IxR X (fun x y H Q=>r x y H Q ∨ r' x y H Q):=by
 intro value slice pins s σ H x y v u Q I rx ry q hs
 rcases q with q | q
 ·exact h value slice pins s σ H x y v u Q I rx ry q hs
 ·exact h' value slice pins s σ H x y v u Q I rx ry q hs
theorem bS2 {r : R2} (hr : IxR X r) (ha : PE X a ta) (hb : PE X b tb) (hs : av8 b) : PE X (.Subscript a b pos) (tOp r ta tb):=by
 intro pins s σ H Q I h
 exact Subscript_ (cl0 ha hb I h fun v u s2 x y H2 I2 rx ry q=>hr a b pins s2 σ H2 x y v u Q I2 rx ry q (hs _ _))
noncomputable def cp3 (K : PySem.W.Frag) : R2:=fun x y H Q=>∃ p xs i v,x = .ref p ∧ y = .int i ∧ SqL K H p xs ∧ atI xs i = some v ∧ Q v H
noncomputable def cp1 (K : PySem.W.Frag) : R2:=fun x y H Q=>∃ p xs i v,x = .ref p ∧ y = .int i ∧ SqT K H p xs ∧ atI xs i = some v ∧ Q v H
noncomputable def cp2 : R2:=fun x y H Q=>∃ z i c,x = .str z ∧ y = .int i ∧ z.length ≤ sizeLine ∧ atI z.cps.toList i = some c ∧ Q (.str ⟨#[c]⟩) H
theorem bO9 : IxR X (cp3 X.K):=by
 intro value slice pins s σ H x y v u Q I rx ry h hs
 obtain ⟨p,xs,i,z,rfl,rfl,hq,he,q⟩:=h
 cases rx
 obtain ⟨t,rfl⟩:=ry
 obtain ⟨its,r,pl,hz⟩:=I.list hq
 obtain ⟨j,h1,h2,h3,h4,h5⟩:=aM3 he
 obtain ⟨w,ew,rw'⟩:=r.get h2
 have hl:=r.length
 have hn:=as4
 have fin : EP X pins σ Q w s:=⟨z,H,I,rw',q⟩
 by_cases h0 : 0 ≤ i
 ·have hj : i.toNat = j:=by
   rw [seqIndex_of h0 h5] at h1
   exact Option.some.inj h1
  exact item_listR pl.isList h0 (by omega) (by rw [hj]; simpa using ew) fin hs
 ·have hj : (i + (its.toArray.size : Int)).toNat = j:=by
   rw [seqIndex_neg (by omega) h4] at h1
   rw [List.size_toArray,← hl]
   exact Option.some.inj h1
  exact subscriptTail_builtinR (x:=w) pl.isList.typeIs slot_list_getitem.lookup
   (wpAny_getItem_list_neg (Q:=fun r s'=>r = w ∧ EP X pins σ Q r s') pl.isList (by omega) (by rw [List.size_toArray] <;> omega) (by omega) (by rw [hj]; simpa using ew) ⟨rfl,fin⟩) hs
theorem cj4 : IxR X (cp1 X.K):=by
 intro value slice pins s σ H x y v u Q I rx ry h hs
 obtain ⟨p,xs,i,z,rfl,rfl,hq,he,q⟩:=h
 cases rx
 obtain ⟨t,rfl⟩:=ry
 obtain ⟨its,r,pl,hz⟩:=I.tuple hq
 obtain ⟨j,h1,h2,h3,h4,h5⟩:=aM3 he
 obtain ⟨w,ew,rw'⟩:=r.get h2
 have hl:=r.length
 have hn:=as4
 have fin : EP X pins σ Q w s:=⟨z,H,I,rw',q⟩
 exact subscriptTail_builtinR (x:=w) pl.typeIs slot_tuple_getitem.lookup
  (getItem_tuple (j:=j) (Q:=fun r s'=>r = w ∧ EP X pins σ Q r s') pl (by omega) (by omega) (by rw [List.size_toArray,← hl]; exact h1) (by simpa using ew) ⟨rfl,fin⟩) hs
theorem cj5 : IxR X cp2:=by
 intro value slice pins s σ H x y v u Q I rx ry h hs
 obtain ⟨z,i,c,rfl,rfl,hz,he,q⟩:=h
 obtain ⟨t,rfl⟩:=rx
 obtain ⟨t',rfl⟩:=ry
 obtain ⟨j,h1,h2,h3,h4,h5⟩:=aM3 he
 have hl : z.cps.toList.length = z.length:=by simp [Str.length]
 rw [hl] at h1 h4 h5
 have hn:=as4
 exact tail_any (typeIs_str s z t) slot_str_getitem.lookup (getItem_str (c:=c) (by
  have e1 : decide (i < -(2 ^ 63 : Int)) = false:=decide_eq_false (by omega)
  have e2 : decide (i ≥ 2 ^ 63) = false:=decide_eq_false (by omega)
  rw [e1,e2,Bool.or_false]) (by rw [h1]; simpa using h2) ⟨.str ⟨#[c]⟩,H,I.tok _,⟨_,rfl⟩,q⟩) hs
noncomputable def rIx (K : PySem.W.Frag) : R2:=fun x y H Q=>cp3 K x y H Q ∨ cp1 K x y H Q ∨ cp2 x y H Q
theorem bB6 : IxR X (rIx X.K):=bO9.or (cj4.or cj5)
theorem am8 (lo hi : Option Int) (n : Nat) : (sliceBounds lo hi none n).1 = ((HT.sIx n 0 lo : Nat) : Int) ∧ (sliceBounds lo hi none n).2.1 = ((HT.sIx n n hi : Nat) : Int) ∧ (sliceBounds lo hi none n).2.2 = 1:=by
 refine ⟨?_,?_,rfl⟩
 ·cases lo with
  | none=>simp [sliceBounds,HT.sIx]
  | some i =>
   simp only [sliceBounds,HT.sIx,Option.getD_none,show (1 : Int) > 0 by decide,if_true]
   by_cases h : i < 0
   ·simp only [h,if_true] <;> omega
   ·simp only [h,if_false] <;> omega
 ·cases hi with
  | none=>simp [sliceBounds,HT.sIx]
  | some i =>
   simp only [sliceBounds,HT.sIx,Option.getD_none,show (1 : Int) > 0 by decide,if_true]
   by_cases h : i < 0
   ·simp only [h,if_true] <;> omega
   ·simp only [h,if_false] <;> omega
theorem aB3 (its : List Value) (lo hi : Option Int) : slicePick its.toArray lo hi none = ((its.drop (HT.sIx its.length 0 lo)).take (HT.sIx its.length its.length hi - HT.sIx its.length 0 lo)).toArray:=by
 obtain ⟨h1,h2,h3⟩:=am8 lo hi its.toArray.size
 unfold slicePick
 rw [h1,h2,h3]
 simp only [sliceRange_one,pick_run,List.size_toArray] <;> rfl
noncomputable def cw1 (K : PySem.W.Frag) : V → Option Int → Option Int → Hp → VK → Prop:=fun x lo hi H Q=>∃ a xs,x = .ref a ∧ SqL K H a xs ∧ ∀ p,H p = none → Q (.ref p) (upd H p (.lst (aT5 xs lo hi)))
theorem be2 : SlR X (cw1 X.K):=by
 intro pins s σ H x v vl vu lo hi sl Q I rx hs pl pu h
 obtain ⟨a,xs,rfl,hx,q⟩:=h
 cases rx
 obtain ⟨its,r,ht,hz⟩:=I.list hx
 have hlen:=r.length
 refine ⟨"list", _,slot_list_getitem.lookup,ht.isList.typeIs,?_⟩
 refine wpAny_getItem_list_slice ht.isList hs pl pu .none (by simp) ?_ (by rw [List.size_toArray] <;> omega)
 rw [aB3,← hlen]
 refine ⟨.ref s.heap.objs.size,_,I.laid (t':=s.toks) (o:=.lst (aT5 xs lo hi)) (fun b ob q=>Heap.get?_push_of_some _ q) (Nat.le_refl _) ?_,rfl,q _ (I.hok.fresh (Nat.le_refl _))⟩
 exact ⟨Nat.le_trans (at8 xs lo hi) hz,_,0,(r.drop (HT.sIx xs.length 0 lo)).take (HT.sIx xs.length xs.length hi - HT.sIx xs.length 0 lo),Heap.get?_push_size _ rfl⟩
noncomputable def aj3 : V → Bool
 | .non=>true
 | .bl _=>true
 | .int _=>true
 | .str _=>true
 | _=>false
noncomputable def eqV : V → V → Bool
 | .non,.non=>true
 | .bl a,.bl b=>a == b
 | .bl a,.int b=>(if a then 1 else 0) == b
 | .int a,.bl b=>a == (if b then 1 else 0)
 | .int a,.int b=>a == b
 | .str a,.str b=>a == b
 | _,_=>false
theorem ck5 {A : Around} {s : Shared} {y x : V} {u v : Value} (ry : K8 y u) (rx : K8 x v) (fy : aj3 y = true) (fx : aj3 x = true) : SeqAt.EqAt A s u v (eqV y x):=by
 cases y with
 | non =>
  cases ry
  cases x with
  | non=>cases rx; exact SeqAt.EqAt.same _
  | bl b=>cases rx; exact SeqAt.EqAt.none_bool b
  | int b=>obtain ⟨t,rfl⟩:=rx; exact SeqAt.EqAt.none_int b t
  | str b=>obtain ⟨t,rfl⟩:=rx; exact SeqAt.EqAt.none_str b t
  | _=>exact absurd (show false = true from fx) Bool.false_ne_true
 | bl a =>
  cases ry
  cases x with
  | non=>cases rx; exact SeqAt.EqAt.bool_none a
  | bl b=>cases rx; exact SeqAt.EqAt.bool_bool a b
  | int b=>obtain ⟨t,rfl⟩:=rx; exact SeqAt.EqAt.bool_int a b t
  | str b=>obtain ⟨t,rfl⟩:=rx; exact SeqAt.EqAt.bool_str a b t
  | _=>exact absurd (show false = true from fx) Bool.false_ne_true
 | int a =>
  obtain ⟨t',rfl⟩:=ry
  cases x with
  | non=>cases rx; exact SeqAt.EqAt.int_none a t'
  | bl b=>cases rx; exact SeqAt.EqAt.int_bool a t' b
  | int b=>obtain ⟨t,rfl⟩:=rx; exact SeqAt.EqAt.int_int a t' b t
  | str b=>obtain ⟨t,rfl⟩:=rx; exact SeqAt.EqAt.int_str a t' b t
  | _=>exact absurd (show false = true from fx) Bool.false_ne_true
 | str a =>
  obtain ⟨t',rfl⟩:=ry
  cases x with
  | non=>cases rx; exact SeqAt.EqAt.str_none a t'
  | bl b=>cases rx; exact SeqAt.EqAt.str_bool a t' b
  | int b=>obtain ⟨t,rfl⟩:=rx; exact SeqAt.EqAt.str_int a t' b t
  | str b=>obtain ⟨t,rfl⟩:=rx; exact SeqAt.EqAt.str_str a t' b t
  | _=>exact absurd (show false = true from fx) Bool.false_ne_true
 | _=>exact absurd (show false = true from fy) Bool.false_ne_true
noncomputable def eqU (x : V) (u : Value) : Bool:=match u with
 | .none=>eqV .non x
 | .bool b=>eqV (.bl b) x
 | .int i _=>eqV (.int i) x
 | .str z _=>eqV (.str z) x
 | _=>false
theorem bD9 {x y : V} {u : Value} (r : K8 y u) (f : aj3 y = true) : eqU x u = eqV y x:=by
 cases y with
 | non=>cases r; rfl
 | bl b=>cases r; rfl
 | int i=>obtain ⟨t,rfl⟩:=r; rfl
 | str z=>obtain ⟨t,rfl⟩:=r; rfl
 | _=>exact absurd (show false = true from f) Bool.false_ne_true
theorem ap2 {x : V} : ∀ {xs : List V} {us : List Value},F6 xs us → xs.all aj3 = true → us.any (eqU x) = xs.any fun y=>eqV y x
 | _,_,.nil,_=>rfl
 | y :: xs,u :: us,.cons r t,f=>by
  rw [List.all_cons,Bool.and_eq_true] at f
  rw [List.any_cons,List.any_cons,bD9 r f.1,ap2 t f.2]
theorem ae0 {A : Around} {s : Shared} {x : V} {v : Value} (rx : K8 x v) (fx : aj3 x = true) : ∀ {xs : List V} {us : List Value},F6 xs us → xs.all aj3 = true → ∀ u ∈ us,SeqAt.EqAt A s u v (eqU x u)
 | _,_,.nil,_=>fun u hu=>by cases hu
 | y :: xs,u :: us,.cons r t,f=>fun u' hu=>by
  rw [List.all_cons,Bool.and_eq_true] at f
  rcases List.mem_cons.mp hu with rfl | hu
  ·rw [bD9 r f.1]; exact ck5 r rx f.1 fx
  ·exact ae0 rx fx t f.2 u' hu
noncomputable def inV (x : V) (xs : List V) : Bool:=xs.any fun y=>eqV y x
noncomputable def rIn (K : PySem.W.Frag) (neg : Bool) : R2:=fun x y H Q=>∃ p xs,y = .ref p ∧ (SqL K H p xs ∨ SqT K H p xs) ∧ aj3 x = true ∧ xs.all aj3 = true ∧ Q (.bl (if neg then !inV x xs else inV x xs)) H
theorem bk5 : OpR X (compareOp .In) (rIn X.K false):=by
 intro pins s σ H x y v u Q I rx ry h
 obtain ⟨p,xs,rfl,hq,fx,fs,q⟩:=h
 cases ry
 rcases hq with hq | hq
 ·obtain ⟨its,r,pl,hz⟩:=I.list hq
  refine SeqAt.in_listAt (eqU x) pl.isList (fun w hw=>ae0 rx fx r fs w (by simpa using hw)) ⟨.bl _,H,I,rfl,?_⟩
  rw [show its.toArray.any (eqU x) = its.any (eqU x) by simp,ap2 r fs]
  exact q
 ·obtain ⟨its,r,pl,hz⟩:=I.tuple hq
  refine SeqAt.in_tupleAt (eqU x) pl (fun w hw=>ae0 rx fx r fs w (by simpa using hw)) ⟨.bl _,H,I,rfl,?_⟩
  rw [show its.toArray.any (eqU x) = its.any (eqU x) by simp,ap2 r fs]
  exact q
theorem aI6 : OpR X (compareOp .NotIn) (rIn X.K true):=by
 intro pins s σ H x y v u Q I rx ry h
 obtain ⟨p,xs,rfl,hq,fx,fs,q⟩:=h
 cases ry
 rcases hq with hq | hq
 ·obtain ⟨its,r,pl,hz⟩:=I.list hq
  refine SeqAt.notIn_listAt (eqU x) pl.isList (fun w hw=>ae0 rx fx r fs w (by simpa using hw)) ⟨.bl _,H,I,rfl,?_⟩
  rw [show its.toArray.any (eqU x) = its.any (eqU x) by simp,ap2 r fs]
  exact q
 ·obtain ⟨its,r,pl,hz⟩:=I.tuple hq
  refine SeqAt.notIn_tupleAt (eqU x) pl (fun w hw=>ae0 rx fx r fs w (by simpa using hw)) ⟨.bl _,H,I,rfl,?_⟩
  rw [show its.toArray.any (eqU x) = its.any (eqU x) by simp,ap2 r fs]
  exact q
theorem aL6 : U2 X (.builtin "len") (fun xs H Q=>∃ p ys,xs = [.ref p] ∧ (SqL X.K H p ys ∨ SqT X.K H p ys) ∧ Q (.int ys.length) H):=by
 intro pins s σ H xs us Q I r h
 obtain ⟨p,ys,rfl,hq,q⟩:=h
 obtain ⟨u,rfl,rx⟩:=h9 r
 cases rx
 have hn:=as4
 rcases hq with hq | hq
 ·obtain ⟨its,r',pl,hz⟩:=I.list hq
  have hlen:=r'.length
  exact Calls.call_len_list pl.isList (by simp only [List.size_toArray] <;> omega) ⟨.int ys.length,H,I.tok _,⟨s.toks + 1,by rw [List.size_toArray,hlen]⟩,q⟩
 ·obtain ⟨its,r',pl,hz⟩:=I.tuple hq
  have hlen:=r'.length
  exact len_tuple pl (by simp only [List.size_toArray] <;> omega) ⟨.int ys.length,H,I.tok _,⟨s.toks + 1,by rw [List.size_toArray,hlen]⟩,q⟩
theorem aL5 : U2 X (.builtin "len") (fun xs H Q=>∃ z,xs = [.str z] ∧ z.length ≤ sizeLine ∧ Q (.int z.length) H):=by
 intro pins s σ H xs us Q I r h
 obtain ⟨z,rfl,hz,q⟩:=h
 obtain ⟨u,rfl,t,rfl⟩:=h9 r
 have hn:=as4
 exact len_str (by omega) ⟨.int z.length,H,I.tok _,⟨_,rfl⟩,q⟩
theorem aL4 : U2 X (.type "list") (fun xs H Q=>∃ p ys,xs = [.ref p] ∧ (SqL X.K H p ys ∨ SqT X.K H p ys) ∧ ∀ l,H l = none → Q (.ref l) (upd H l (.lst ys))):=by
 intro pins s σ H xs us Q I r h
 obtain ⟨p,ys,rfl,hq,q⟩:=h
 obtain ⟨u,rfl,rx⟩:=h9 r
 cases rx
 have fin : ∀ (its : List Value),F6 ys its → ys.length ≤ sizeLine → ∀ (h' : Heap) (c' : Nat),(∀ b o',s.heap.get? b = some o' → h'.get? b = some o') →
   h'.get? s.heap.objs.size = some { cls:=.type "list", dict:=none,data:=.seq its.toArray c',slots:=#[] } → EP X pins σ Q (.ref s.heap.objs.size) { s with heap:=h' }:=fun its r' hz h' c' kp e =>
  ⟨.ref s.heap.objs.size,_,I.laid (t':=s.toks) kp (Nat.le_refl _) (show Z4 X.prog X.w _ h' _ (.lst ys) from ⟨hz,its,c',r',e⟩),rfl,q _ (I.hok.fresh (Nat.le_refl _))⟩
 rcases hq with hq | hq
 ·obtain ⟨its,r',pl,hz⟩:=I.list hq
  have hlen:=r'.length
  obtain ⟨o,ho,hc,n,hd⟩:=pl.isList
  exact call_list_seq p (.inl rfl) ho hc hd (fun h' c' kp e=>fin its r' hz h' c' kp e) (by simp only [List.size_toArray] <;> omega)
 ·obtain ⟨its,r',pl,hz⟩:=I.tuple hq
  have hlen:=r'.length
  obtain ⟨o,ho,hc,n,hd⟩:=pl
  exact call_list_seq p (.inr rfl) ho hc hd (fun h' c' kp e=>fin its r' hz h' c' kp e) (by simp only [List.size_toArray] <;> omega)
theorem aC6 : U2 X (.type "tuple") (fun xs H Q=>∃ p ys,xs = [.ref p] ∧ ((SqL X.K H p ys ∧ ∀ l,H l = none → Q (.ref l) (upd H l (.tup ys))) ∨ (SqT X.K H p ys ∧ Q (.ref p) H))):=by
 intro pins s σ H xs us Q I r h
 obtain ⟨p,ys,rfl,h⟩:=h
 obtain ⟨u,rfl,rx⟩:=h9 r
 cases rx
 rcases h with ⟨hq,q⟩ | ⟨hq,q⟩
 ·obtain ⟨its,r',pl,hz⟩:=I.list hq
  have hlen:=r'.length
  refine call_tuple_list pl.isList (fun h' kp=>?_) (by simp only [List.size_toArray] <;> omega)
  have I1 : Inv X pins σ H { s with heap:=h' }:=I.kept (t':=s.toks) kp
  have I2 : Inv X pins σ (upd H h'.objs.size (.tup ys)) { s with heap:=h'.push { cls:=.type "tuple", data:=.seq its.toArray } } :=
   I1.laid (t':=s.toks) (fun b o e=>Heap.get?_push_of_some _ e) (Nat.le_refl _) (show Z4 X.prog X.w _ _ _ (.tup ys) from ⟨hz,its,r',IsTup.new _ _⟩)
  exact ⟨.ref h'.objs.size,_,I2,rfl,q _ (I1.hok.fresh (Nat.le_refl _))⟩
 ·obtain ⟨its,r',pl,hz⟩:=I.tuple hq
  exact call_tuple_same pl ⟨.ref p,H,I,rfl,q⟩
noncomputable def tyV (K : PySem.W.Frag) (T : String) (x : V) (H : Hp) : Prop:=match x with
 | .str _=>T = "str"
 | .int _=>T = "int"
 | .ref p=>(T = "list" ∧ ∃ xs,SqL K H p xs) ∨ (T = "tuple" ∧ ∃ o,K.lookup p = some o ∧ o.cls = .type "tuple" ∧ o.dict = none) ∨
   (T = "dict" ∧ ((∃ kvs,H p = some (.dK kvs)) ∨ ∃ kvs,H p = some (.dT kvs))) ∨ (T = "set" ∧ ∃ S n,H p = some (.set S n))
 | _=>False
theorem bU5 {pins : List (Addr × Obj)} {σ : St} {H : Hp} {s : Shared} {T : String} {x : V} {v : Value} (I : Inv X pins σ H s) (r : K8 x v) (ty : tyV X.K T x H) :
  s.TypeIs v T ∧ ∀ a,v = .ref a → ∃ ob,s.heap.get? a = some ob ∧ ob.dict = none:=by
 cases x with
 | str z =>
  obtain ⟨t,rfl⟩:=r
  cases (show T = "str" from ty)
  exact ⟨typeIs_str s z t,fun _ e=>nomatch e⟩
 | int i =>
  obtain ⟨t,rfl⟩:=r
  cases (show T = "int" from ty)
  exact ⟨typeIs_int s i t,fun _ e=>nomatch e⟩
 | ref p =>
  cases r
  rcases ty with ⟨rfl,xs,hq⟩ | ⟨rfl,o,hk,hc,hd⟩ | ⟨rfl,hk⟩ | ⟨rfl,S,n,hk⟩
  ·obtain ⟨its,_,pl,_⟩:=I.list hq
   refine ⟨pl.isList.typeIs,fun a e=>?_⟩
   cases e
   obtain ⟨o,n,e,c,hd,_⟩:=pl
   exact ⟨o,e,hd⟩
  ·refine ⟨⟨o,I.kIn p o hk,hc⟩,fun a e=>?_⟩
   cases e
   exact ⟨o,I.kIn _ o hk,hd⟩
  ·have z : ∃ o,s.heap.get? p = some o ∧ o.ExactDict:=by
    rcases hk with ⟨kvs,hk⟩ | ⟨kvs,hk⟩
    ·obtain ⟨_,_,_,_,o,_,_,e,ex,_⟩:=I.hok p _ hk
     exact ⟨o,e,ex⟩
    ·obtain ⟨_,_,_,_,o,_,_,e,ex,_⟩:=I.hok p _ hk
     exact ⟨o,e,ex⟩
   obtain ⟨o,e,ex⟩:=z
   refine ⟨⟨o,e,ex.1⟩,fun a e2=>?_⟩
   cases e2
   exact ⟨o,e,ex.2.1⟩
  ·obtain ⟨o,_,_,_,e,ex,_⟩:=I.hok p _ hk
   refine ⟨⟨o,e,ex.1⟩,fun a e2=>?_⟩
   cases e2
   exact ⟨o,e,ex.2.1⟩
 | _=>exact False.elim ty
noncomputable def tBM (K : PySem.W.Frag) (T : String) (r : V → List V → Hp → VK → Prop) (to : TE) (t : TA) : TE:=fun σ H Q=>to σ H fun x H1=>tyV K T x H1 ∧ t σ H1 fun xs H2=>r x xs H2 Q
variable {o e : Expr} {es : List Expr} {to : TE} {t : TA} {name : Str} {apos cpos : Pos} {T id : String} {r : V → List V → Hp → VK → Prop}
theorem be9 (pa : PlainAttrs T) (slot : Slot T name id) (hty : typeOf (.builtin id) = pure (.type "method_descriptor")) (hm : MtR X id r) (ho : PE X o to) (ha : PA X (e :: es) t)
  (hbase : attributeBase o name X.env (eval o X.env) = eval o X.env:=by rfl)
  (hfew : ((backTo cpos (starEach (e :: es) X.env)).all (fun x=>!x.1) && (backToKw cpos (keywordEach [] X.env)).all (fun x=>x.1.isSome)
   && decide ((e :: es).length + ([] : List Keyword).length + (if ([] : List Keyword).isEmpty then 0 else 1) < 30)) = true:=by rfl)
  (hline : (apos.endLine == cpos.line) = true:=by rfl) (hs : starEach (e :: es) X.env = (false,eval e X.env) :: starEach es X.env:=by rfl) (hplain : (backTo cpos (starEach es X.env)).any (·.1) = false:=by rfl) :
  PE X (.Call (.Attribute o name apos) (e :: es) [] cpos) (tBM X.K T r to t):=by
 intro pins s σ H Q I h
 refine wpAny_Call_method_late hbase hfew hline rfl (thn (ho pins s σ H _ I h) fun v s1 ⟨x,H1,I1,r1,ty,q1⟩=>?_)
 obtain ⟨h1,h2⟩:=bU5 I1 r1 ty
 refine ⟨T,id,pa,slot,hty,h1,h2,?_⟩
 have hA:=ha cpos pins s1 σ H1 _ I1 q1
 rw [hs] at hA ⊢
 refine Calls.callWith_builtin (by show (false || (backTo cpos (starEach es X.env)).any (·.1)) = false; rw [hplain] <;> rfl) (Calls.evalArgs_plain ?_)
 exact thn hA fun us s2 ⟨vs,H2,I2,r2,q2⟩=>hm pins s2 σ H2 x vs v us Q I2 r1 r2 q2
end
end L2
namespace L2
open PySem PySem.Spec PyProof.Rows
noncomputable def MtM (X : Cx) (id : String) (r : V → List V → Hp → VK → Prop) : Prop :=
 ∀ (pins : List (Addr × Obj)) (s : Shared) (σ : St) (H : Hp) (x : V) (xs : List V) (v : Value) (us : List Value) (Q : VK),Inv X pins σ H s → K8 x v → F6 xs us → r x xs H Q →
  wpAny (model X.prog X.w) X.A (call (.builtin id) (v :: us)) (EP X pins σ Q) X.xe s
theorem F6.one : ∀ {x : V} {us : List Value},F6 [x] us → ∃ u,us = [u] ∧ K8 x u
 | _,_,.cons r .nil=>⟨_,rfl,r⟩
theorem F6.rep {xs : List V} {us : List Value} (h : F6 xs us) : ∀ k : Nat,F6 (List.replicate k xs).flatten (List.replicate k us).flatten
 | 0=>.nil
 | k + 1=>by
  rw [List.replicate_succ,List.replicate_succ,List.flatten_cons,List.flatten_cons]
  exact F6.append h (F6.rep h k)
theorem aE9 (its : List Value) : ∀ (k : Nat) (acc : List Value),
  List.foldl (fun x1 x2=>x1 ++ x2) acc.toArray (List.replicate k its.toArray) = (acc ++ (List.replicate k its).flatten).toArray
 | 0,acc=>by simp
 | k + 1,acc=>by
  have e : acc.toArray ++ its.toArray = (acc ++ its).toArray:=by simp
  have e2 : (acc ++ its) ++ (List.replicate k its).flatten = acc ++ (List.replicate (k + 1) its).flatten:=by
   rw [List.replicate_succ,List.flatten_cons,List.append_assoc]
  rw [← e2,← aE9 its k (acc ++ its),← e,List.replicate_succ,List.foldl_cons]
section
variable {X : Cx} {pins : List (Addr × Obj)} {σ : St} {H : Hp} {s : Shared} {l b : Addr} {xs ys zs : List V}
theorem Inv.lset {its its' : List Value} {n : Nat} {f : Array Value → Array Value} {t' : Nat} (I : Inv X pins σ H s) (hH : H l = some (.lst xs))
  (e : s.heap.get? l = some { cls:=.type "list", data:=.seq its.toArray n }) (hf : f its.toArray = its'.toArray) (hv : F6 ys its') (hz : ys.length ≤ sizeLine) :
  Inv X pins σ (upd H l (.lst ys)) { s with heap:=s.heap.update l (Obj.mapSeq f),toks:=t' }:=by
 have q:=PySem.IsL.update e f
 rw [hf] at q
 refine I.write (x:=l) (e:=l) (by rw [hH]; exact trivial) (.inl rfl) (fun b' u hb hu=>(Heap.get?_update_other s.heap (Obj.mapSeq f) (Ne.symm hb)).trans hu) ⟨_,q⟩ ?_
 exact ⟨hz,its',_,hv,q⟩
theorem Inv.lnew {its : List Value} {t' : Nat} (I : Inv X pins σ H s) (hv : F6 ys its) (hz : ys.length ≤ sizeLine) :
  Inv X pins σ (upd H s.heap.objs.size (.lst ys)) { s with heap:=s.heap.push { cls:=.type "list", data:=.seq its.toArray },toks:=t' } :=
 I.laid (fun _ _ q=>Heap.get?_push_of_some _ q) (Nat.le_refl _) ⟨hz,its,0,hv,Heap.get?_push_size _ rfl⟩
theorem Inv.fresh (I : Inv X pins σ H s) : H s.heap.objs.size = none:=I.hok.fresh (Nat.le_refl _)
theorem Inv.lstM (I : Inv X pins σ H s) (hH : H l = some (.lst xs)) : xs.length ≤ sizeLine ∧ ∃ (its : List Value) (n : Nat),F6 xs its ∧ xs.length = its.length ∧ s.heap.get? l = some { cls:=.type "list", data:=.seq its.toArray n }:=by
 obtain ⟨z,its,n,r,e⟩:=I.hok l _ hH
 exact ⟨z,its,n,r,r.length,e⟩
theorem ad8 {n : Nat} (h : n ≤ sizeLine) : Builtin.List.listTooLong n = false:=by
 unfold Builtin.List.listTooLong
 exact decide_eq_false (by omega)
end
section
variable {X : Cx}
noncomputable def bH5 : V → List V → Hp → VK → Prop:=fun x vs H Q=>∃ l xs y,x = .ref l ∧ vs = [y] ∧ H l = some (.lst xs) ∧ xs.length < sizeLine ∧ Q .non (upd H l (.lst (xs ++ [y])))
theorem aE1 : MtM X "list.append" bH5:=by
 intro pins s σ H x vs v us Q I rx rv h
 obtain ⟨l,xs,y,rfl,rfl,hH,hz,q⟩:=h
 cases rx
 obtain ⟨u,rfl,ru⟩:=rv.one
 obtain ⟨z,its,n,r,hl,e⟩:=I.lstM hH
 refine call_meets F.slot_list_append ⟨_,e,rfl⟩ F.entry_list_append (F.args_list_append_2 _ _) (PySem.list_append l its.toArray n u (by rw [List.size_toArray]; omega)) ⟨e,?_⟩
 refine ⟨.non,_,I.lset (its':=its ++ [u]) hH e (by simp) (r.append (.cons ru .nil)) ?_,rfl,q⟩
 rw [List.length_append,List.length_singleton]
 omega
theorem aJ7 {α : Type} (xs : List α) (k : Nat) : (List.replicate k xs).flatten.length = k * xs.length:=by
 induction k with
 | zero=>simp
 | succ k ih=>rw [List.replicate_succ,List.flatten_cons,List.length_append,ih,Nat.succ_mul,Nat.add_comm]
end
section
variable {prog : Program} {w : World} {A : Around} {E : Value → Shared → Prop} {s : Shared}
theorem bj3 (its its2 : List Value) (a c : Nat) : its.toArray.extract 0 a ++ its2.toArray ++ its.toArray.extract c its.toArray.size = (its.take a ++ its2 ++ its.drop c).toArray:=by
  apply Array.toList_inj.mp
  first
    | (simp
       exact List.take_of_length_le (by simp))
    | simp [List.take_of_length_le]
    | simp
set_option maxRecDepth 100000 in
end
section
variable {X : Cx}
end
end L2
namespace Att
open PySem PySem.W PySem.Calls PyProof.Rows
theorem au3 {P : Params} {h : Heap} : ∀ (ns : List Int) (vs : List Value),WellAll P h vs (ns.map WData.int) → IntsAre vs ns:=by
 intro ns
 induction ns with
 | nil =>
  intro vs w
  rw [List.map_nil] at w
  cases w
  exact .nil
 | cons n ns ih =>
  intro vs w
  rw [List.map_cons] at w
  cases w with
  | cons a b =>
   cases a
   exact .cons _ _ (ih _ b)
theorem bj9 {l : OpenLaw} {n : Nat} (hn : l.most = some n) {P : Params} {h : Heap} {args : List WData} {vals : List Value}
  (hpre : l.row.toRowW.claim.pre args = true) (hwl : WellAll P h vals args) :
  ∃ a vs ns,vals = [Value.ref a] ∧ args = [WData.list (ns.map WData.int)] ∧ h.get? a = some { cls:=.type "list", data:=.seq vs.toArray } ∧ IntsAre vs ns ∧ ns.length ≤ n:=by
 have hsh : WShape.hasAll [] args [.list .int] = true:=(pre_splitW hpre).1
 have hc : l.pre.holds [] { args:=args } = true:=(pre_splitW hpre).2
 obtain ⟨d,r,rfl,h1,h2⟩:=hasAllW_cons hsh
 obtain rfl:=hasAllW_nil h2
 obtain ⟨xs,rfl,h3⟩:=hasW_list h1
 obtain ⟨ns,rfl⟩:=items_int h3
 have hlen : ns.length ≤ n:=by
  unfold OpenLaw.pre at hc
  have h4 : (WTm.not (.lt (.lit (.int (n : Int))) (.len (.arg 0)))).holds [] { args:=[.list (ns.map .int)] } = true:=by
   have h4:=(holds_andW hc).1
   rw [hn] at h4
   exact h4
  have h5:=condW_of h4 (w_not (w_lt w_lit (w_len_list (w_arg rfl))))
  rw [List.length_map] at h5
  refine Nat.le_of_not_lt fun q=>?_
  have q' : (n : Int) < ((ns.length : Nat) : Int):=by omega
  first
   | (rw [decide_eq_true q'] at h5; exact absurd h5 (by decide))
   | (simp at h5; omega)
 cases hwl with
 | cons w1 w2 =>
  cases w2
  cases w1 with
  | list ho hall=>exact ⟨_,_,ns,rfl,rfl,ho,au3 ns _ hall,hlen⟩
theorem bk1 (l : OpenLaw) (args : List WData) : l.row.toRowW.claim.post args (.bool true) args = true :=
 postW_of (r:=l.row.toRowW) (X:=(true == true))
  (show WShape.has [] (.bool true) .bool = true by first | rfl | decide | simp [WShape.has,WShape.arms,WShape.armsAll])
  (show (WTm.eq .res (.lit (.bool true))).value [] { args:=args,res:=some (.bool true),after:=args } = some (.bool (true == true)) from w_eq_bool (w_res rfl) w_lit) rfl
theorem attach_call {l : OpenLaw} {n : Nat} {q : Program} {loose : List Str} {XP : (Str → Option Value) → Heap → Prop} {YP : World → Heap → Prop} {d : DefRec}
  (hn : l.most = some n) (hdf : d.params.defaults = [])
  (call : ∀ (w : World) (s₀ s₁ : Shared) (mg mb : Str → Option Value) (fa : Addr) (o : Obj) (pm cd doc : Value) (a : Addr) (vs : List Value) (ns : List Int),
   Ground q loose [] XP w s₀ mg mb s₁.heap → YP w s₁.heap →
   s₁.heap.get? fa = some o → o.data = .func (docDef d.name d.params d.body d.scope pm cd doc) → s₁.heap.CodeRec cd d.name → mg d.name = some (.ref fa) →
   s₁.heap.get? a = some { cls:=.type "list", data:=.seq vs.toArray } → IntsAre vs ns → ns.length ≤ n → s₁.gens = #[] →
   codeAny (model l.prog w) callerA (.call (.ref fa) ⟨[.ref a],[]⟩) (fun r s'=>r = .ok (.ret (.bool true)) ∧ OldK s₁.heap s'.heap ∧ s'.os = s₁.os ∧ AllBare s'.gens) s₁) :
  WalkO q loose XP YP l.row.toRowW d [] (fun f vs=>PySem.call f vs):=by
 intro w s₀ s₁ mg mb G Y fa o pm cd doc dV kV ho hd hcd hD hmg hg args vals as hpre hlay hrd hwl hlo
 obtain rfl : dV = .none:=Dflts.none hD hdf
 obtain rfl : kV = .none:=Dflts.noKw hD
 obtain ⟨a,vs,ns,rfl,rfl,hobj,hints,hlen⟩:=bj9 hn hpre hwl
 refine enter_call (codeAny_mono (call w s₀ s₁ mg mb fa o pm cd doc a vs ns G Y ho (fd_plain hd) hcd hmg hobj hints hlen hg) fun r s' hq=>?_)
 obtain ⟨rfl,h2,h3,h4⟩:=hq
 exact ⟨.inl ⟨.bool true,.bool true,[],rfl,fun _=>rfl,.bool true,bk1 l _,fun _=>⟨List.Pairwise.nil,fun _ hm=>(nomatch hm)⟩⟩,h2,h3,h4⟩
section
variable {prog : Program} {w : World} {A : Around} {E : Value → Shared → Prop} {s : Shared} {K : Frag}
end
end Att
namespace L2
open PySem PySem.Spec PyProof.Rows
theorem Y1 : ∀ {vs : List Value} {ns : List Int},IntsAre vs ns → F6 (ns.map V.int) vs
 | _,_,.nil=>.nil
 | _,_,.cons n t h=>.cons ⟨t,rfl⟩ (Y1 h)
noncomputable def cm0 (H : Hp) : Prop:=∀ b,H b = none ∨ ∃ o xs,H b = some (.frz o (.lst xs))
theorem bz5 {P : Program} {w : World} {K : PySem.W.Frag} {mg mb : Str → Option Value} {CX : CXT} {k : Nat} {fa a : Addr} {fd : FuncData} {x : Str} {sp : Sp} {s₁ : Shared} {vs : List Value} {ns : List Int}
  (KX : K.In s₁.heap) (hns : s₁.heap.Ns mainGlobals mg) (hb : s₁.heap.Ns builtinsNs mb) (hbb : ∀ x : Str,x ≠ "__name__" → mb x = bootBuiltins x) (hlim : s₁.heap.NoLimit) (hg : s₁.gens = #[])
  (ha : s₁.heap.get? a = some { cls:=.type "list", data:=.seq vs.toArray }) (hi : IntsAre vs ns) (hl : ns.length ≤ sizeLine) (hr : Room k callerA)
  (F : ∀ base : Heap,K.In base → base.Ns mainGlobals mg → FnOk P w K mg base CX k fa fd [x] sp) (hbind : ∀ (s : Shared) (u : Value),BindsTo s fd ⟨[u],[]⟩ [(x,u)])
  (hsp : ∀ H : Hp,cm0 H → SqL K H a (ns.map V.int) → sp [.ref a] H (fun v _=>v = .bl true) fun _ _ _=>False)
  (hCX : ∀ H e s',CX [] H s₁ (fun _ _ _=>False) e s' → False) :
  codeAny (model P w) callerA (.call (.ref fa) ⟨[.ref a],[]⟩) (fun r s'=>r = .ok (.ret (.bool true)) ∧ OldK s₁.heap s'.heap ∧ s'.os = s₁.os ∧ AllBare s'.gens) s₁:=by
 have rv:=Y1 hi
 have lenV:=hi.length
 have core : ∀ H : Hp,cm0 H → SqL K H a (ns.map V.int) → HOk P w H s₁.heap → (∀ b,H b ≠ none → b = a) → (H a ≠ none → K.lookup a = none) →
   codeAny (model P w) callerA (.call (.ref fa) ⟨[.ref a],[]⟩) (fun r s'=>r = .ok (.ret (.bool true)) ∧ OldK s₁.heap s'.heap ∧ s'.os = s₁.os ∧ AllBare s'.gens) s₁:=by
  intro H hO hS hok hA hK
  have base_of : ∀ {b : Addr} {o : Obj},s₁.heap.get? b = some o → H b = none → (aK2 s₁.heap H).get? b = some o:=fun e n=>bC1 e n
  have noA : ∀ {b : Addr} {o : Obj} {es : Array DictEntry} {ep : Nat},s₁.heap.get? b = some o → o.data = .dict es ep → H b = none:=fun {b o es ep} e d=>by
   cases q : H b with
   | none=>rfl
   | some u =>
    have e' : b = a:=hA b (by rw [q]; simp)
    subst e'
    rw [ha] at e; cases e
    have d' : Data.seq vs.toArray _ = Data.dict es ep:=d
    cases d'
  have nsK : ∀ {b : Addr} {m : Str → Option Value},s₁.heap.Ns b m → (aK2 s₁.heap H).Ns b m:=fun {b m} ⟨o,es,ep,e,d,r⟩=>⟨o,es,ep,base_of e (noA e d),d,r⟩
  have hKb : K.In (aK2 s₁.heap H):=fun b o e=>base_of (KX b o e) (by
   cases q : H b with
   | none=>rfl
   | some u =>
    have e' : b = a:=hA b (by rw [q]; simp)
    subst e'
    rw [hK (by rw [q]; simp)] at e; cases e)
  have hM : Mod K mg (aK2 s₁.heap H):=⟨hKb,nsK hns,⟨mb,nsK hb,hbb⟩,let ⟨mc,h1,h2⟩:=hlim; ⟨mc,nsK h1,h2⟩⟩
  have e0 : Env0 P w K mg (aK2 s₁.heap H) callerA [] s₁ H:=⟨rfl,hM,fun b o e=>bK1 e,Nat.le_of_eq (bn5 _ _),trivial,fun b hb=>absurd (show b ∈ ([] : List Addr) from hb) (by simp),hok,.of_eq hg⟩
  refine codeAny_mono ((F _ hKb (nsK hns)).run callerA [] s₁ H ⟨[.ref a],[]⟩ [.ref a] [.ref a] _ _ hr e0 (hbind s₁ (.ref a)) (.cons rfl .nil) (hsp H hO hS)) fun r s' h=>?_
  cases r with
  | error e=>exact (hCX H e s' h).elim
  | ok fl =>
   cases fl with
   | next=>exact False.elim h
   | brk=>exact False.elim h
   | cont=>exact False.elim h
   | ret u =>
    obtain ⟨v,H',os,bare,un,hok',r',q⟩:=h
    have q' : v = .bl true:=q
    subst q'
    obtain rfl : u = Value.bool true:=r'
    refine ⟨rfl,OldK.of_keep fun b o e=>?_,os,bare⟩
    cases q : H b with
    | none=>exact un.keep b o e q (by intro z; exact absurd (show b ∈ ([] : List Addr) from z) (by simp)) (by simp)
    | some u =>
     rcases hO b with z | ⟨ob,xs,z⟩
     ·rw [q] at z; cases z
     ·have z2:=un.frzs b ob _ z
      obtain ⟨e1,_⟩:=hok b _ z
      obtain ⟨e2,_⟩:=hok' b _ z2
      rw [e] at e1; cases e1
      exact e2
 cases hk : K.lookup a with
 | some o =>
  have e:=KX a o hk
  rw [ha] at e
  cases e
  refine core (fun _=>none) (fun _=>.inl rfl) (.inr ⟨_,vs.toArray,_,hk,rfl,rfl,rfl,by rw [List.size_toArray,lenV]; exact hl,by simpa using rv⟩) (fun b u z=>by have z' : (none : Option HO) = some u:=z; cases z') (fun b z=>absurd rfl z) fun z=>absurd rfl z
 | none =>
  refine core (fun b=>if b = a then some (.frz { cls:=.type "list", data:=.seq vs.toArray } (.lst (ns.map V.int))) else none) (fun b=>?_) (.inl (.inr ⟨{ cls:=.type "list", data:=.seq vs.toArray },if_pos rfl⟩)) (fun b u z=>?_) (fun b z=>?_) fun _=>hk
  ·by_cases hb : b = a
   ·exact .inr ⟨_,_,if_pos hb⟩
   ·exact .inl (if_neg hb)
  ·by_cases hb : b = a
   ·have z':=(if_pos hb).symm.trans z
    cases z'
    subst hb
    exact ⟨ha,by rw [List.length_map]; exact hl,vs,_,rv,ha⟩
   ·have z':=(if_neg hb).symm.trans z
    cases z'
  ·by_cases hb : b = a
   ·exact hb
   ·exact absurd (if_neg hb) z
end L2
namespace L2
open PySem PySem.Spec PyProof.Rows
theorem bG5 {l : PySem.W.OpenLaw} {n k : Nat} {q : Program} {loose : List Str} {XP : (Str → Option Value) → Heap → Prop} {YP : World → Heap → Prop} {d : DefRec} {K : Params → PySem.W.Frag} {CX : World → CXT} {sp : World → Sp} {x : Str}
  (hn : l.most = some n) (hn2 : n ≤ sizeLine) (hdf : d.params.defaults = []) (hr : Room k callerA)
  (hY : ∀ (w : World) (h : Heap),YP w h → (K w.params).In h)
  (F : ∀ (w : World) (mg : Str → Option Value) (fa : Addr) (h : Heap),(K w.params).In h → h.Ns mainGlobals mg → mg d.name = some (.ref fa) →
   ∃ fd : FuncData,(∀ (s : Shared) (u : Value),BindsTo s fd ⟨[u],[]⟩ [(x,u)]) ∧
    ∀ base : Heap,(K w.params).In base → base.Ns mainGlobals mg → FnOk l.prog w (K w.params) mg base (CX w) k fa fd [x] (sp w))
  (hsp : ∀ (w : World) (H : Hp) (a : Addr) (ns : List Int),ns.length ≤ n → cm0 H → SqL (K w.params) H a (ns.map V.int) → sp w [.ref a] H (fun v _=>v = .bl true) fun _ _ _=>False)
  (hCX : ∀ (w : World) (H : Hp) (s : Shared) (e : Value) (s' : Shared),CX w [] H s (fun _ _ _=>False) e s' → False) :
  PySem.W.WalkO q loose XP YP l.row.toRowW d [] (fun f vs=>PySem.call f vs):=by
 refine Att.attach_call hn hdf fun w s₀ s₁ mg mb fa o pm cd doc a vs ns G Y ho hd hcd hmg hobj hints hlen hg=>?_
 have KX:=hY w _ Y
 obtain ⟨fd,hb,hF⟩:=F w mg fa _ KX G.T.g hmg
 exact bz5 KX G.T.g G.T.b G.T.builtins G.T.nolimit hg hobj hints (Nat.le_trans hlen hn2) hr hF hb (fun H hO hS=>hsp w H a ns hlen hO hS) fun H e s'=>hCX w H s₁ e s'
end L2
namespace L2
open PySem PySem.Spec PyProof.Rows
noncomputable def X1 (s : Stmt) : Arguments:=match s with
 | .FunctionDef _ a _ _ _ _ _ _ _ _=>a
 | _=>{ posonlyargs:=[],args:=[],vararg:=none,kwonlyargs:=[],kw_defaults:=[],kwarg:=none,defaults:=[] }
noncomputable def R9 (s : Stmt) : List Stmt:=match s with
 | .FunctionDef _ _ b _ _ _ _ _ _ _=>b
 | _=>[]
noncomputable def J4 (s : Stmt) : Scope:=match s with
 | .FunctionDef _ _ _ _ _ _ sc _ _ _=>sc
 | _=>{ kind:=.function,names:=[],isGenerator:=false,isCoroutine:=false }
noncomputable abbrev CX0 : CXT:=fun _ _ _ _ _ _=>False
noncomputable abbrev E0 : XK:=fun _ _ _=>False
theorem bS3 {X : Cx} : aM7 CX0 X E0:=fun _ _ _ _ _ _ _ h=>h.elim
structure Fun (K : PySem.W.Frag) (x qual : Str) (st : Stmt) (f : Addr) (fd : FuncData) : Prop where
 ex : ∃ (oc : Value) (od : Option Addr) (kV doc pm : Value) (an : Option Addr) (cdv ct : Value) (osl : Array (Option Value)),
  fd = PySem.W.fnOf x qual (X1 st) (R9 st) (J4 st) .none kV doc pm an cdv ct ∧ K.lookup f = some ⟨oc,od,.func fd,osl⟩ ∧ PySem.W.codeIn K cdv qual = true
 kp : PySem.W.keepIn K (.ref f) = true
section
variable {P : Program} {w : World} {K : PySem.W.Frag} {mg : Str → Option Value} {base : Heap}
theorem Fun.ok {x qual : Str} {st : Stmt} {f : Addr} {fd : FuncData} {N ps : List Str} {k : Nat} {sp : Sp} (F : Fun K x qual st f fd) (S : FnScope N ps (J4 st)) (len : ∀ vs H Q E,sp vs H Q E → vs.length = ps.length)
  (hbody : ∀ (cdv : Value) (A : Around) (outer : List Env) (s : Shared) (H : Hp) (vs : List V) (Q : VK) (E : XK),Room k (A.deeper (envOfC qual (J4 st) s.heap.objs.size f cdv)) → sp vs H Q E →
   ∃ t,PSs (ba8 CX0 P w K mg base N qual (J4 st) f cdv A outer s H E).nox (R9 st) t ∧ t { nx:=fun _ H'=>Q .non H',rt:=Q } (o7 N vs) H) : FnOk P w K mg base CX0 (k + 1) f fd ps sp:=by
 obtain ⟨oc,od,kV,doc,pm,an,cdv,ct,osl,rfl,lk,hcd⟩:=F.ex
 refine aS1 lk hcd S len fun A outer s H vs Q E hr hsp=>?_
 obtain ⟨t,h,q⟩:=hbody cdv A outer s H vs Q E hr hsp
 exact ⟨t,h.nox,q⟩
theorem ck2 {x qual : Str} {st : Stmt} {f : Addr} {oc : Value} {od an : Option Addr} {osl : Array (Option Value)} {kV doc pm cdv ct : Value} (l : K.lookup f = some ⟨oc,od,.func (PySem.W.fnOf x qual (X1 st) (R9 st) (J4 st) .none kV doc pm an cdv ct),osl⟩)
  (c : PySem.W.codeIn K cdv qual = true) (k : PySem.W.keepIn K (.ref f) = true) : Fun K x qual st f (PySem.W.fnOf x qual (X1 st) (R9 st) (J4 st) .none kV doc pm an cdv ct):=⟨⟨oc,od,kV,doc,pm,an,cdv,ct,osl,rfl,l,c⟩,k⟩
end
theorem ap9 {n : Nat} (h : n ≤ 1000) : n < sizeLine:=Nat.lt_of_le_of_lt h (by decide)
section
variable {X : Cx}
theorem pv (i : Nat) {x : Str} {pos : Pos} (hN : X.N[i]? = some x:=by rfl) (hv : Vis X.env.scope x:=by first | exact Or.inl rfl | exact Or.inr (Or.inl rfl) | exact Or.inr (Or.inr rfl)) (hd : (x == ("__debug__" : Str)) = false:=by decide)
  (hcd : (x == ("__classdict__" : Str)) = false:=by decide) : PE X (.Name x pos) (cn7 i):=ak8 hN hv hd hcd
end
theorem aC1 {A B : Prop} (h : B) : if false = true then A else B:=by
 rw [if_neg Bool.false_ne_true]
 exact h
theorem aC0 {A B : Prop} (h : A) : if true = true then A else B:=by
 rw [if_pos rfl]
 exact h
noncomputable def F9 (H H' : Hp) : Prop:=∀ b o,H b = some o → H' b = some o
theorem F9.refl (H : Hp) : F9 H H:=fun _ _ h=>h
theorem F9.trans {H H1 H2 : Hp} (a : F9 H H1) (b : F9 H1 H2) : F9 H H2:=fun c o h=>b c o (a c o h)
theorem F9.free {H H' : Hp} (e : F9 H H') {l : Addr} (h : H' l = Option.none) : H l = Option.none:=by
 cases q : H l with
 | none=>rfl
 | some o =>
  rw [e l o q] at h
  cases h
end L2
set_option maxHeartbeats 4000000
namespace G
theorem xbm {α β : Type} {o : Option α} {f : α → Option β} {b : β} (h : o.bind f = some b) : ∃ a,o = some a ∧ f a = some b:=Option.bind_eq_some_iff.mp h
open PySem PySem.Spec PyProof.Rows L2
noncomputable abbrev D:=PyData
mutual
noncomputable def Rep (K : PySem.W.Frag) (H : Hp) : D → V → Prop
 | .none,v=>v = .non
 | .bool b,v=>v = .bl b
 | .int i,v=>v = .int i
 | .str x,v=>v = .str x
 | .tuple ds,v=>∃ a vs,v = .ref a ∧ SqT K H a vs ∧ Reps K H ds vs
 | .list ds,v=>∃ a vs,v = .ref a ∧ SqL K H a vs ∧ Reps K H ds vs
 | .dict _,_=>False
noncomputable def Reps (K : PySem.W.Frag) (H : Hp) : List D → List V → Prop
 | [],vs=>vs = []
 | d :: ds,vs=>∃ v r,vs = v :: r ∧ Rep K H d v ∧ Reps K H ds r
end
section
variable {K : PySem.W.Frag} {H H' H0 H1 H2 Hf Hf' Hf1 Hf2 : Hp}
theorem be4 {a : Addr} {u : HO} (e : F9 H H') (h : Rd H a u) : Rd H' a u:=by
 rcases h with h | ⟨o,h⟩
 ·exact .inl (e _ _ h)
 ·exact .inr ⟨o,e _ _ h⟩
theorem E2 {a : Addr} {xs : List V} (e : F9 H H') (h : SqT K H a xs) : SqT K H' a xs:=h.imp (be4 e) id
theorem G2 {a : Addr} {xs : List V} (e : F9 H H') (h : SqL K H a xs) : SqL K H' a xs:=h.imp (be4 e) id
mutual
theorem Rep.mono (e : F9 H H') : ∀ {d : D} {v : V},Rep K H d v → Rep K H' d v
 | .none,_,h=>h
 | .bool _,_,h=>h
 | .int _,_,h=>h
 | .str _,_,h=>h
 | .tuple _,_,⟨a,vs,h1,h2,h3⟩=>⟨a,vs,h1,E2 e h2,Reps.mono e h3⟩
 | .list _,_,⟨a,vs,h1,h2,h3⟩=>⟨a,vs,h1,G2 e h2,Reps.mono e h3⟩
 | .dict _,_,h=>h
theorem Reps.mono (e : F9 H H') : ∀ {ds : List D} {vs : List V},Reps K H ds vs → Reps K H' ds vs
 | [],_,h=>h
 | _ :: _,_,⟨v,r,h1,h2,h3⟩=>⟨v,r,h1,Rep.mono e h2,Reps.mono e h3⟩
end
theorem Reps.length : ∀ {ds : List D} {vs : List V},Reps K H ds vs → vs.length = ds.length
 | [],_,h=>by cases h; rfl
 | _ :: _,_,⟨v,r,h1,h2,h3⟩=>by subst h1; simp [Reps.length h3]
theorem Reps.get : ∀ {ds : List D} {vs : List V} {i : Nat} {d : D},Reps K H ds vs → ds[i]? = some d → ∃ v,vs[i]? = some v ∧ Rep K H d v
 | [],_,_,_,_,e=>by simp at e
 | x :: _,_,0,_,⟨v,r,h1,h2,h3⟩,e=>by subst h1; simp at e; subst e; exact ⟨v,rfl,h2⟩
 | x :: _,_,i + 1,_,⟨v,r,h1,h2,h3⟩,e=>by
  subst h1
  obtain ⟨u,q1,q2⟩:=Reps.get (i:=i) h3 (by simpa using e)
  exact ⟨u,by simpa using q1,q2⟩
theorem Reps.append : ∀ {ds es : List D} {vs us : List V},Reps K H ds vs → Reps K H es us → Reps K H (ds ++ es) (vs ++ us)
 | [],_,_,_,h,q=>by cases h; exact q
 | _ :: _,_,_,_,⟨v,r,h1,h2,h3⟩,q=>by subst h1; exact ⟨v,r ++ _,rfl,h2,Reps.append h3 q⟩
theorem Reps.take : ∀ {ds : List D} {vs : List V} (n : Nat),Reps K H ds vs → Reps K H (ds.take n) (vs.take n)
 | [],_,n,h=>by cases h; simp [Reps]
 | _ :: _,_,0,h=>by simp [Reps]
 | _ :: _,_,n + 1,⟨v,r,h1,h2,h3⟩=>by subst h1; exact ⟨v,r.take n,rfl,h2,Reps.take n h3⟩
theorem Reps.drop : ∀ {ds : List D} {vs : List V} (n : Nat),Reps K H ds vs → Reps K H (ds.drop n) (vs.drop n)
 | [],_,n,h=>by cases h; simp [Reps]
 | _ :: _,_,0,h=>h
 | _ :: _,_,n + 1,⟨v,r,h1,h2,h3⟩=>by subst h1; exact Reps.drop n h3
theorem Reps.ints : ∀ (ns : List Int),Reps K H (ns.map PyData.int) (ns.map V.int)
 | []=>rfl
 | n :: r=>⟨.int n,r.map V.int,rfl,rfl,Reps.ints r⟩
theorem Reps.flatten {ds : List D} {vs : List V} (h : Reps K H ds vs) : ∀ k : Nat,Reps K H (List.replicate k ds).flatten (List.replicate k vs).flatten
 | 0=>rfl
 | k + 1=>by simp only [List.replicate_succ,List.flatten_cons]; exact h.append (Reps.flatten h k)
structure Grow (H Hf H' Hf' : Hp) : Prop where
 big : F9 H H'
 sub : F9 Hf' H'
 ext : F9 Hf Hf'
 new : ∀ b,Hf' b ≠ none → Hf b ≠ none ∨ H b = none
theorem Grow.refl (h : F9 Hf H) : Grow H Hf H Hf:=⟨F9.refl _,h,F9.refl _,fun _ h=>.inl h⟩
theorem Grow.trans (a : Grow H Hf H1 Hf1) (b : Grow H1 Hf1 H2 Hf2) : Grow H Hf H2 Hf2 :=
 ⟨a.big.trans b.big,b.sub,a.ext.trans b.ext,fun x h=>(b.new x h).elim (a.new x) fun z=>.inr (a.big.free z)⟩
theorem E8 {p : Addr} {o : HO} (h : H p = none) : F9 H (upd H p o):=fun b u e=>by rw [D7 (D8 e h)]; exact e
theorem Grow.laid {p : Addr} {o : HO} (s : F9 Hf H) (h : H p = none) : Grow H Hf (upd H p o) (upd Hf p o):=by
 refine ⟨E8 h,fun b u e=>?_,E8 (s.free h),fun b e=>?_⟩
 ·by_cases q : b = p
  ·subst q; rw [D6] at e; rw [D6]; exact e
  ·rw [D7 q] at e; rw [D7 q]; exact s b u e
 ·by_cases q : b = p
  ·subst q; exact .inr h
  ·rw [D7 q] at e; exact .inl e
theorem Grow.made {p : Addr} {o : HO} (s : F9 Hf H) (h : H p = none) : Grow H Hf (upd H p o) Hf :=
 ⟨E8 h,s.trans (E8 h),F9.refl _,fun _ e=>.inl e⟩
theorem Grow.freeze {p : Addr} {o : HO} (g : Grow H Hf H1 Hf1) (h : H1 p = some o) (n : Hf1 p = none) (f : H p = none) : Grow H Hf H1 (upd Hf1 p o):=by
 refine ⟨g.big,fun b u e=>?_,g.ext.trans (E8 n),fun b e=>?_⟩
 ·by_cases q : b = p
  ·subst q; rw [D6] at e; rw [h]; exact e
  ·rw [D7 q] at e; exact g.sub b u e
 ·by_cases q : b = p
  ·subst q; exact .inr f
  ·rw [D7 q] at e; exact g.new b e
end
inductive B where
 | val (d : D)
 | own (ds : List D)
noncomputable abbrev Rho:=List (Option B)
noncomputable def SB (K : PySem.W.Frag) (H0 H Hf : Hp) : B → V → Prop
 | .val d,v=>Rep K Hf d v
 | .own ds,v=>∃ a vs,v = .ref a ∧ H a = some (.lst vs) ∧ Hf a = none ∧ H0 a = none ∧ Reps K Hf ds vs
structure Slots (K : PySem.W.Frag) (H0 : Hp) (ρ : Rho) (σ : L2.St) (H Hf : Hp) : Prop where
 len : ρ.length = σ.length
 is : ∀ (i : Nat) (b : B),ρ[i]? = some (some b) → ∃ v,σ[i]? = some (some v) ∧ SB K H0 H Hf b v
 apart : ∀ (i j : Nat) (ds es : List D) (a : Addr),ρ[i]? = some (some (.own ds)) → ρ[j]? = some (some (.own es)) → σ[i]? = some (some (V.ref a)) → σ[j]? = some (some (V.ref a)) → i = j
section
variable {K : PySem.W.Frag} {H H' H0 H1 H2 Hf Hf' Hf1 Hf2 : Hp} {ρ : Rho} {σ : L2.St}
theorem SB.grow {b : B} {v : V} (h : SB K H0 H Hf b v) (g : Grow H Hf H' Hf') : SB K H0 H' Hf' b v:=by
 cases b with
 | val d=>exact Rep.mono g.ext h
 | own ds =>
  obtain ⟨a,vs,e,h1,h2,h3,h4⟩:=h
  refine ⟨a,vs,e,g.big _ _ h1,?_,h3,h4.mono g.ext⟩
  cases q : Hf' a with
  | none=>rfl
  | some u =>
   rcases g.new a (by rw [q]; simp) with z | z
   ·exact absurd h2 z
   ·rw [h1] at z; cases z
theorem Slots.grow (s : Slots K H0 ρ σ H Hf) (g : Grow H Hf H' Hf') : Slots K H0 ρ σ H' Hf' :=
 ⟨s.len,fun i b e=>let ⟨v,h1,h2⟩:=s.is i b e; ⟨v,h1,h2.grow g⟩,s.apart⟩
end
noncomputable abbrev DE:=Rho → Option D
noncomputable def tJ (K : PySem.W.Frag) (ρ : Rho) (R : Hp → V → Hp → Hp → Prop) : TE:=fun σ H Q=>∃ H0 Hf,F9 Hf H ∧ Slots K H0 ρ σ H Hf ∧ ∀ v H' Hf',Grow H Hf H' Hf' → R H v H' Hf' → Q v H'
noncomputable def JE (X : Cx) (e : Expr) (f : DE) : Prop:=∀ ρ d,f ρ = some d → PE X e (tJ X.K ρ fun _ v _ Hf=>Rep X.K Hf d v)
noncomputable def Sq (K : PySem.W.Frag) : Bool → Hp → Addr → List V → Prop
 | true=>SqT K
 | false=>SqL K
noncomputable def RQ (K : PySem.W.Frag) (t : Bool) (ds : List D) (v : V) (H Hf : Hp) : Prop:=∃ a vs,v = .ref a ∧ Sq K t H a vs ∧ Reps K Hf ds vs
noncomputable def JQ (X : Cx) (e : Expr) (f : Rho → Option (Bool × List D)) : Prop:=∀ ρ t ds,f ρ = some (t,ds) → PE X e (tJ X.K ρ fun _ v H Hf=>RQ X.K t ds v H Hf)
noncomputable def JN (X : Cx) (e : Expr) (f : Rho → Option (List D)) : Prop:=∀ ρ ds,f ρ = some ds → PE X e (tJ X.K ρ fun H v H' Hf'=>∃ a vs,v = .ref a ∧ H a = none ∧ H' a = some (.lst vs) ∧ Hf' a = none ∧ Reps X.K Hf' ds vs)
noncomputable def tJA (K : PySem.W.Frag) (ρ : Rho) (ds : List D) : TA:=fun σ H Q=>∃ H0 Hf,F9 Hf H ∧ Slots K H0 ρ σ H Hf ∧ ∀ vs H' Hf',Grow H Hf H' Hf' → Reps K Hf' ds vs → Q vs H'
structure JA (X : Cx) (es : List Expr) (f : Rho → Option (List D)) : Prop where
 len : ∀ ρ ds,f ρ = some ds → ds.length = es.length
 run : ∀ ρ ds,f ρ = some ds → PA X es (tJA X.K ρ ds)
noncomputable def JT (X : Cx) (e : Expr) (f : Rho → Option Bool) : Prop:=∀ ρ c,f ρ = some c → PT X e (fun σ H Q=>∃ H0 Hf,F9 Hf H ∧ Slots X.K H0 ρ σ H Hf ∧ ∀ H' Hf',Grow H Hf H' Hf' → Q c H')
noncomputable def JW (X : Cx) (e : Expr) (f : Rho → Option Bool) : Prop:=∀ ρ c,f ρ = some c → PW X e (fun σ H Q=>∃ H0 Hf,F9 Hf H ∧ Slots X.K H0 ρ σ H Hf ∧ ∀ H' Hf',Grow H Hf H' Hf' → Q c H')
section
variable {X : Cx}
theorem D4 {e : Expr} {t t' : TE} (h : PE X e t) (i : ∀ σ H Q,t' σ H Q → t σ H Q) : PE X e t':=fun pins s σ H Q I q=>h pins s σ H Q I (i σ H Q q)
theorem aI2 {e : Expr} {t t' : TT} (h : PT X e t) (i : ∀ σ H Q,t' σ H Q → t σ H Q) : PT X e t':=fun pins s σ H Q I q=>h pins s σ H Q I (i σ H Q q)
noncomputable def dC (d : D) : DE:=fun _=>some d
noncomputable def A6 (i : Nat) : DE:=fun ρ=>match ρ[i]? with
 | some (some (.val d))=>some d
 | _=>none
noncomputable def B1 (i : Nat) : Rho → Option (Bool × List D):=fun ρ=>match ρ[i]? with
 | some (some (.own ds))=>some (false,ds)
 | some (some (.val (.list ds)))=>some (false,ds)
 | some (some (.val (.tuple ds)))=>some (true,ds)
 | _=>none
noncomputable def Y6 : D → Option (Bool × List D)
 | .list ds=>some (false,ds)
 | .tuple ds=>some (true,ds)
 | _=>none
theorem bB3 {i : Int} {j : Nat} {pos : Pos} : JE X (.Constant (.int i) j pos) (dC (.int i)):=fun ρ d h=>by
 cases h
 exact D4 cc1 fun σ H Q ⟨H0,Hf,s,sl,k⟩=>k _ H Hf (Grow.refl s) rfl
theorem cs3 {b : Bool} {j : Nat} {pos : Pos} : JE X (.Constant (.bool b) j pos) (dC (.bool b)):=fun ρ d h=>by
 cases h
 exact D4 cp8 fun σ H Q ⟨H0,Hf,s,sl,k⟩=>k _ H Hf (Grow.refl s) rfl
theorem ci4 {j : Nat} {pos : Pos} : JE X (.Constant .none j pos) (dC .none):=fun ρ d h=>by
 cases h
 exact D4 cb9 fun σ H Q ⟨H0,Hf,s,sl,k⟩=>k _ H Hf (Grow.refl s) rfl
theorem ch8 {x : Str} {j : Nat} {pos : Pos} : JE X (.Constant (.str x) j pos) (dC (.str x)):=fun ρ d h=>by
 cases h
 exact D4 cb5 fun σ H Q ⟨H0,Hf,s,sl,k⟩=>k _ H Hf (Grow.refl s) rfl
theorem ch6 (i : Nat) {x : Str} {pos : Pos} (hN : X.N[i]? = some x:=by rfl) (hv : Vis X.env.scope x:=by first | exact Or.inl rfl | exact Or.inr (Or.inl rfl) | exact Or.inr (Or.inr rfl)) (hd : (x == ("__debug__" : Str)) = false:=by decide)
  (hcd : (x == ("__classdict__" : Str)) = false:=by decide) : JE X (.Name x pos) (A6 i):=fun ρ d h=>by
 refine D4 (ak8 hN hv hd hcd) fun σ H Q ⟨H0,Hf,s,sl,k⟩=>?_
 unfold A6 at h
 split at h
 ·rename_i d' e
  cases h
  obtain ⟨v,h1,h2⟩:=sl.is i _ e
  exact ⟨v,h1,k v H Hf (Grow.refl s) h2⟩
 ·cases h
theorem cg8 (i : Nat) {x : Str} {pos : Pos} (hN : X.N[i]? = some x:=by rfl) (hv : Vis X.env.scope x:=by first | exact Or.inl rfl | exact Or.inr (Or.inl rfl) | exact Or.inr (Or.inr rfl)) (hd : (x == ("__debug__" : Str)) = false:=by decide)
  (hcd : (x == ("__classdict__" : Str)) = false:=by decide) : JQ X (.Name x pos) (B1 i):=fun ρ t ds h=>by
 refine D4 (ak8 hN hv hd hcd) fun σ H Q ⟨H0,Hf,s,sl,k⟩=>?_
 unfold B1 at h
 split at h
 ·rename_i d' e
  cases h
  obtain ⟨v,h1,a,vs,rfl,h2,h3,h4,h5⟩:=sl.is i _ e
  exact ⟨_,h1,k _ H Hf (Grow.refl s) ⟨a,vs,rfl,SqL.of h2,h5⟩⟩
 ·rename_i d' e
  cases h
  obtain ⟨v,h1,a,vs,rfl,h2,h3⟩:=sl.is i _ e
  exact ⟨_,h1,k _ H Hf (Grow.refl s) ⟨a,vs,rfl,G2 s h2,h3⟩⟩
 ·rename_i d' e
  cases h
  obtain ⟨v,h1,a,vs,rfl,h2,h3⟩:=sl.is i _ e
  exact ⟨_,h1,k _ H Hf (Grow.refl s) ⟨a,vs,rfl,E2 s h2,h3⟩⟩
 ·cases h
theorem Rep.seq {K : PySem.W.Frag} {H Hf : Hp} {d : D} {v : V} {t : Bool} {ds : List D} (h : Rep K Hf d v) (s : F9 Hf H) (e : Y6 d = some (t,ds)) : RQ K t ds v H Hf:=by
 cases d with
 | list xs=>cases e; obtain ⟨a,vs,e1,e2,e3⟩:=h; exact ⟨a,vs,e1,G2 s e2,e3⟩
 | tuple xs=>cases e; obtain ⟨a,vs,e1,e2,e3⟩:=h; exact ⟨a,vs,e1,E2 s e2,e3⟩
 | _=>cases e
noncomputable def qE (f : DE) : Rho → Option (Bool × List D):=fun ρ=>(f ρ).bind Y6
theorem bA4 {e : Expr} {f : DE} (h : JE X e f) : JQ X e (qE f):=fun ρ t ds q=>by
 obtain ⟨d,h1,h2⟩:=xbm q
 exact D4 (h ρ d h1) fun σ H Q ⟨H0,Hf,s,sl,k⟩=>⟨H0,Hf,s,sl,fun v H' Hf' g r=>k v H' Hf' g (r.seq g.sub h2)⟩
noncomputable def A7 : Rho → Option (List D):=fun _=>some []
noncomputable def A5 (f : DE) (g : Rho → Option (List D)) : Rho → Option (List D):=fun ρ=>(f ρ).bind fun d=>(g ρ).map fun ds=>d :: ds
theorem cj3 : JA X [] A7:=⟨fun ρ ds h=>by cases h; rfl,fun ρ ds h pos pins s σ H Q I ⟨H0,Hf,ss,sl,k⟩=>by
 cases h
 exact J7 pos pins s σ H Q I (k [] H Hf (Grow.refl ss) rfl)⟩
theorem bO8 {e : Expr} {es : List Expr} {f : DE} {g : Rho → Option (List D)} (h : JE X e f) (r : JA X es g) (hs : starEach (e :: es) X.env = (false,eval e X.env) :: starEach es X.env:=by rfl) : JA X (e :: es) (A5 f g):=by
 refine ⟨fun ρ ds q=>?_,fun ρ ds q=>?_⟩
 ·obtain ⟨d,h1,h2⟩:=xbm q
  obtain ⟨es',h3,h4⟩:=Option.map_eq_some_iff.mp h2
  subst h4
  simp [r.len ρ es' h3]
 ·obtain ⟨d,h1,h2⟩:=xbm q
  obtain ⟨es',h3,h4⟩:=Option.map_eq_some_iff.mp h2
  subst h4
  intro pos pins s σ H Q I ⟨H0,Hf,ss,sl,k⟩
  refine E6 (h ρ d h1) (r.run ρ es' h3) hs pos pins s σ H Q I ⟨H0,Hf,ss,sl,fun v H1 Hf1 g1 r1=>⟨H0,Hf1,g1.sub,sl.grow g1,fun vs H2 Hf2 g2 r2=>?_⟩⟩
  exact k (v :: vs) H2 Hf2 (g1.trans g2) ⟨v,vs,rfl,r1.mono g2.ext,r2⟩
noncomputable def C2 (f : Rho → Option (List D)) : DE:=fun ρ=>(f ρ).map PyData.tuple
theorem ch7 {es : List Expr} {f : Rho → Option (List D)} {k : Nat} {pos : Pos} (h : JA X es f) (hn : es.length ≤ 1000:=by decide) : JE X (.Tuple es k pos) (C2 f):=fun ρ d q=>by
 obtain ⟨ds,h1,h2⟩:=Option.map_eq_some_iff.mp q
 subst h2
 refine D4 (cb4 fun pos pins s σ H Q I t=>h.run ρ ds h1 pos pins s σ H Q I t) fun σ H Q ⟨H0,Hf,s,sl,k⟩=>?_
 refine ⟨H0,Hf,s,sl,fun vs H1 Hf1 g r=>⟨?_,fun p hp=>?_⟩⟩
 ·rw [r.length,h.len ρ ds h1]; exact Nat.le_of_lt (ap9 hn)
 ·exact k _ _ _ (g.trans (Grow.laid g.sub hp)) ⟨p,vs,rfl,SqT.of D6,r.mono (Grow.laid (o:=.tup vs) g.sub hp).ext⟩
theorem ch0 {es : List Expr} {f : Rho → Option (List D)} {pos : Pos} (h : JA X es f) (hn : es.length ≤ 1000:=by decide) : JN X (.List es pos) f:=fun ρ ds h1=>by
 refine D4 (cc0 fun pos pins s σ H Q I t=>h.run ρ ds h1 pos pins s σ H Q I t) fun σ H Q ⟨H0,Hf,s,sl,k⟩=>?_
 refine ⟨H0,Hf,s,sl,fun vs H1 Hf1 g r=>⟨?_,fun p hp=>?_⟩⟩
 ·rw [r.length,h.len ρ ds h1]; exact Nat.le_of_lt (ap9 hn)
 ·exact k _ _ _ (g.trans (Grow.made g.sub hp)) ⟨p,vs,rfl,g.big.free hp,D6,g.sub.free hp,r⟩
noncomputable def E4 (f : Rho → Option (List D)) : DE:=fun ρ=>(f ρ).map PyData.list
theorem ay7 {e : Expr} {f : Rho → Option (List D)} (h : JN X e f) : JE X e (E4 f):=fun ρ d q=>by
 obtain ⟨ds,h1,h2⟩:=Option.map_eq_some_iff.mp q
 subst h2
 refine D4 (h ρ ds h1) fun σ H Q ⟨H0,Hf,s,sl,k⟩=>⟨H0,Hf,s,sl,fun v H' Hf' g ⟨a,vs,e1,e2,e3,e4,e5⟩=>?_⟩
 subst e1
 exact k _ _ _ (g.freeze e3 e4 e2) ⟨a,vs,rfl,SqL.of D6,e5.mono (E8 e4)⟩
theorem bA3 {e : Expr} {f : Rho → Option (List D)} (h : JN X e f) : JQ X e (fun ρ=>(f ρ).map fun ds=>(false,ds)):=fun ρ t ds q=>by
 obtain ⟨ds',h1,h2⟩:=Option.map_eq_some_iff.mp q
 cases h2
 refine D4 (h ρ ds h1) fun σ H Q ⟨H0,Hf,s,sl,k⟩=>⟨H0,Hf,s,sl,fun v H' Hf' g ⟨a,vs,e1,e2,e3,e4,e5⟩=>?_⟩
 subst e1
 exact k _ _ _ g ⟨a,vs,rfl,SqL.of e3,e5⟩
noncomputable def OpD (X : Cx) (F : Value → Value → Sem Value) (h : D → D → Option D) : Prop:=∀ x y z,h x y = some z →
 OpR X F fun vx vy H Q=>∃ Hf,F9 Hf H ∧ Rep X.K Hf x vx ∧ Rep X.K Hf y vy ∧ ∀ v H' Hf',Grow H Hf H' Hf' → Rep X.K Hf' z v → Q v H'
noncomputable def B0 (h : D → D → Option D) (f g : DE) : DE:=fun ρ=>(f ρ).bind fun x=>(g ρ).bind fun y=>h x y
theorem n4 {op : Operator} {h : D → D → Option D} {a b : Expr} {f g : DE} {pos : Pos} (o : OpD X (binaryOp op) h) (ha : JE X a f) (hb : JE X b g) : JE X (.BinOp a op b pos) (B0 h f g):=fun ρ d q=>by
 obtain ⟨x,h1,q⟩:=xbm q
 obtain ⟨y,h2,h3⟩:=xbm q
 refine D4 (bS1 (o x y d h3) (ha ρ x h1) (hb ρ y h2)) fun σ H Q ⟨H0,Hf,s,sl,k⟩=>?_
 refine ⟨H0,Hf,s,sl,fun v H1 Hf1 g1 r1=>⟨H0,Hf1,g1.sub,sl.grow g1,fun u H2 Hf2 g2 r2=>?_⟩⟩
 exact ⟨Hf2,g2.sub,r1.mono g2.ext,r2,fun w H3 Hf3 g3 r3=>k w H3 Hf3 ((g1.trans g2).trans g3) r3⟩
theorem ci9 {op : CmpOp} {h : D → D → Option D} {a b : Expr} {f g : DE} {pos : Pos} (o : OpD X (compareOp op) h) (ha : JE X a f) (hb : JE X b g) (hm : behindInMarks op b = false:=by first | exact bx8 _ | rfl) : JE X (.Compare a [op] [b] pos) (B0 h f g):=fun ρ d q=>by
 obtain ⟨x,h1,q⟩:=xbm q
 obtain ⟨y,h2,h3⟩:=xbm q
 refine D4 (bJ1 (o x y d h3) (ha ρ x h1) (hb ρ y h2) hm) fun σ H Q ⟨H0,Hf,s,sl,k⟩=>?_
 refine ⟨H0,Hf,s,sl,fun v H1 Hf1 g1 r1=>⟨H0,Hf1,g1.sub,sl.grow g1,fun u H2 Hf2 g2 r2=>?_⟩⟩
 exact ⟨Hf2,g2.sub,r1.mono g2.ext,r2,fun w H3 Hf3 g3 r3=>k w H3 Hf3 ((g1.trans g2).trans g3) r3⟩
theorem OpR.imp {F : Value → Value → Sem Value} {r r' : R2} (h : OpR X F r) (i : ∀ x y H Q,r' x y H Q → r x y H Q) : OpR X F r':=fun pins s σ H x y v u Q I rx ry q=>h pins s σ H x y v u Q I rx ry (i x y H Q q)
end
end G
namespace G
open PySem PySem.Spec PyProof.Rows L2
section
variable {X : Cx}
noncomputable def G5 (i : Int) : Prop:=i.natAbs < 2 ^ 8000
instance : DecidablePred G5:=fun i=>inferInstanceAs (Decidable (i.natAbs < 2 ^ 8000))
theorem G5.log {i : Int} (h : G5 i) (h0 : i.natAbs ≠ 0) : i.natAbs.log2 < 8000:=(Nat.log2_lt h0).mpr h
theorem G5.bits {i : Int} (h : G5 i) : Builtin.Int.intBits i ≤ 2 ^ 20:=by
 unfold Builtin.Int.intBits
 split
 ·exact Nat.zero_le _
 ·rename_i h0
  have:=h.log (by simpa using h0)
  omega
theorem bJ7 {X : Cx} : OpR X (binaryOp .Mult) (rI (fun i j=>G5 i ∧ G5 j) fun i j=>.int (i * j)):=opI fun _ _ _ _ _ _ _ hc q=>mul_int q (PySem.IntMulOk.of_bits hc.1.bits hc.2.bits)
noncomputable def cu2 (x y : D) : Option D:=match x,y with
 | .int i,.int j=>some (.int (i + j))
 | _,_=>none
noncomputable def aj5 (x y : D) : Option D:=match x,y with
 | .int i,.int j=>some (.int (i - j))
 | .int i,.bool b=>some (.int (i - if b = true then 1 else 0))
 | .bool a,.int j=>some (.int ((if a = true then 1 else 0) - j))
 | _,_=>none
noncomputable def ce1 (x y : D) : Option D:=match x,y with
 | .int i,.int j=>if G5 i ∧ G5 j then some (.int (i * j)) else none
 | _,_=>none
noncomputable def T8 (x y : D) : Option D:=match x,y with
 | .int i,.int j=>if 0 < j ∧ G5 j then some (.int (i / j)) else none
 | _,_=>none
noncomputable def P3 (x y : D) : Option D:=match x,y with
 | .int i,.int j=>if 0 < j then some (.int (i % j)) else none
 | _,_=>none
noncomputable def bk0 (x y : D) : Option D:=match x,y with
 | .int i,.int j=>if 0 ≤ j ∧ j ≤ 1000000 ∧ i.natAbs < 2 ^ 64 then some (.int (i ^ j.toNat)) else none
 | _,_=>none
theorem cw6 : OpD X (binaryOp .Add) cu2:=fun x y z h=>by
 unfold cu2 at h
 split at h
 ·cases h
  exact OpR.imp bw8 fun vx vy H Q ⟨Hf,s,r1,r2,k⟩=>⟨_,_,r1,r2,k _ H Hf (Grow.refl s) rfl⟩
 ·cases h
theorem cc8 : OpD X (binaryOp .Sub) aj5:=fun x y z h=>by
 unfold aj5 at h
 split at h
 ·cases h
  exact OpR.imp cc2 fun vx vy H Q ⟨Hf,s,r1,r2,k⟩=>⟨_,_,r1,r2,k _ H Hf (Grow.refl s) rfl⟩
 ·cases h
  intro pins s σ H vx vy v u Q I rx ry ⟨Hf,ss,r1,r2,k⟩
  cases r1; cases r2
  obtain ⟨t,rfl⟩:=rx
  obtain rfl : u = Value.bool _:=ry
  exact PySem.IntBool.sub_int_bool ⟨.int _,H,I.tok _,⟨_,rfl⟩,k _ H Hf (Grow.refl ss) rfl⟩
 ·cases h
  intro pins s σ H vx vy v u Q I rx ry ⟨Hf,ss,r1,r2,k⟩
  cases r1; cases r2
  obtain ⟨t,rfl⟩:=ry
  obtain rfl : v = Value.bool _:=rx
  exact PySem.IntBool.sub_bool_int ⟨.int _,H,I.tok _,⟨_,rfl⟩,k _ H Hf (Grow.refl ss) rfl⟩
 ·cases h
theorem cd0 : OpD X (binaryOp .Mult) ce1:=fun x y z h=>by
 unfold ce1 at h
 split at h
 ·split at h
  ·rename_i c
   cases h
   exact OpR.imp bJ7 fun vx vy H Q ⟨Hf,s,r1,r2,k⟩=>⟨_,_,r1,r2,c,k _ H Hf (Grow.refl s) rfl⟩
  ·cases h
 ·cases h
theorem bk6 : OpR X (binaryOp .FloorDiv) (rI (fun _ j=>0 < j ∧ G5 j) fun i j=>.int (i / j)):=opI fun i j _ _ s Q E hc q=>by
 have e : i.fdiv j = i / j:=Int.fdiv_eq_ediv_of_nonneg i (Int.le_of_lt hc.1)
 refine floordiv_int (by omega) (by rw [e]; exact q) (.inl (PyProof.noPylong_of_log2 ?_))
 have h2:=hc.2.log (by omega)
 omega
theorem cd4 : OpD X (binaryOp .FloorDiv) T8:=fun x y z h=>by
 unfold T8 at h
 split at h
 ·split at h
  ·rename_i c
   cases h
   exact OpR.imp bk6 fun vx vy H Q ⟨Hf,s,r1,r2,k⟩=>⟨_,_,r1,r2,c,k _ H Hf (Grow.refl s) rfl⟩
  ·cases h
 ·cases h
theorem cd1 : OpD X (binaryOp .Mod) P3:=fun x y z h=>by
 unfold P3 at h
 split at h
 ·split at h
  ·rename_i c
   cases h
   exact OpR.imp cc4 fun vx vy H Q ⟨Hf,s,r1,r2,k⟩=>⟨_,_,r1,r2,c,k _ H Hf (Grow.refl s) rfl⟩
  ·cases h
 ·cases h
theorem cc9 : OpD X (binaryOp .Pow) bk0:=fun x y z h=>by
 unfold bk0 at h
 split at h
 ·split at h
  ·rename_i c
   cases h
   exact OpR.imp cc3 fun vx vy H Q ⟨Hf,s,r1,r2,k⟩=>⟨_,_,r1,r2,c,k _ H Hf (Grow.refl s) rfl⟩
  ·cases h
 ·cases h
theorem bw7 : OpR X (binaryOp .Add) (fun x y H Q=>∃ a b ys,x = .ref a ∧ y = .ref b ∧ SqT X.K H a [] ∧ SqT X.K H b ys ∧ Q (.ref b) H):=by
 intro pins s σ H x y v u Q I rx ry h
 obtain ⟨a,b,ys,rfl,rfl,ha,hb,q⟩:=h
 cases rx
 cases ry
 obtain ⟨its,r1,p1,_⟩:=I.tuple ha
 obtain ⟨its2,r2,p2,_⟩:=I.tuple hb
 cases r1
 obtain ⟨⟨cls,dd,data,sl⟩,ho,hc,n,hd⟩:=id p1
 obtain ⟨⟨cls2,dd2,data2,sl2⟩,ho2,hc2,n2,hd2⟩:=id p2
 simp only at hc hd hc2 hd2
 subst hc hd hc2 hd2
 exact concat_meets ⟨_,ho,rfl⟩ ⟨_,ho2,rfl⟩ noFill_tuple_add seq_tuple_add PySem.F.slot_tuple_add PySem.F.entry_tuple_add (PySem.F.args_tuple_add_2 _ _)
   (tuple_addW0 a b _ its2.toArray n n2 dd dd2 sl sl2 (by rfl)) ⟨ho,ho2,⟨.ref b,H,I,rfl,q⟩⟩
noncomputable def T3 (x y : D) : Option D:=match x,y with
 | .tuple xs,.tuple ys=>if xs.length + ys.length ≤ 16777216 then some (.tuple (xs ++ ys)) else none
 | .str a,.str b=>if a.length + b.length ≤ 16777216 then some (.str (a ++ b)) else none
 | .int i,.int j=>some (.int (i + j))
 | .bool a,.int j=>some (.int ((if a = true then 1 else 0) + j))
 | _,_=>none
theorem bx2 : OpD X (binaryOp .Add) T3:=fun x y z h=>by
 unfold T3 at h
 split at h
 ·split at h
  ·rename_i xs ys c
   cases h
   cases xs with
   | nil =>
    refine OpR.imp bw7 fun vx vy H Q ⟨Hf,s,r1,r2,k⟩=>?_
    obtain ⟨a,vs,rfl,h2,h3⟩:=r1
    obtain ⟨b,us,rfl,h5,h6⟩:=r2
    cases h3
    exact ⟨a,b,us,rfl,rfl,E2 s h2,E2 s h5,k _ H Hf (Grow.refl s) ⟨b,us,rfl,h5,h6⟩⟩
   | cons d0 ds0 =>
    refine OpR.imp bJ8 fun vx vy H Q ⟨Hf,s,r1,r2,k⟩=>?_
    obtain ⟨a,vs,rfl,h2,h3⟩:=r1
    obtain ⟨b,us,rfl,h5,h6⟩:=r2
    have l1:=h3.length
    have l2:=h6.length
    refine ⟨a,b,vs,us,rfl,rfl,E2 s h2,E2 s h5,?_,by rw [sizeLine_eq]; omega,fun e=>?_,fun e p hp=>?_⟩
    ·intro e; subst e; simp at l1
    ·subst e
     have : ys = []:=by cases ys <;> simp_all
     subst this
     exact k _ H Hf (Grow.refl s) ⟨a,vs,rfl,h2,by rw [List.append_nil]; exact h3⟩
    ·exact k _ _ _ (Grow.laid s hp) ⟨p,vs ++ us,rfl,SqT.of D6,(h3.append h6).mono (E8 (s.free hp))⟩
  ·cases h
 ·split at h
  ·rename_i c
   cases h
   exact OpR.imp aX5 fun vx vy H Q ⟨Hf,s,r1,r2,k⟩=>⟨_,_,r1,r2,by rw [sizeLine_eq]; exact c,k _ H Hf (Grow.refl s) rfl⟩
  ·cases h
 ·cases h
  exact OpR.imp bw8 fun vx vy H Q ⟨Hf,s,r1,r2,k⟩=>⟨_,_,r1,r2,k _ H Hf (Grow.refl s) rfl⟩
 ·cases h
  intro pins s σ H vx vy v u Q I rx ry ⟨Hf,ss,r1,r2,k⟩
  cases r1; cases r2
  obtain ⟨t,rfl⟩:=ry
  obtain rfl : v = Value.bool _:=rx
  exact PySem.IntBool.add_bool_int ⟨.int _,H,I.tok _,⟨_,rfl⟩,k _ H Hf (Grow.refl ss) rfl⟩
 ·cases h
noncomputable def ltI (x y : D) : Option D:=match x,y with
 | .int i,.int j=>some (.bool (decide (i < j)))
 | _,_=>none
noncomputable def leI (x y : D) : Option D:=match x,y with
 | .int i,.int j=>some (.bool (decide (i ≤ j)))
 | _,_=>none
noncomputable def gtI (x y : D) : Option D:=match x,y with
 | .int i,.int j=>some (.bool (decide (j < i)))
 | _,_=>none
noncomputable def geI (x y : D) : Option D:=match x,y with
 | .int i,.int j=>some (.bool (decide (j ≤ i)))
 | _,_=>none
theorem cq6 : OpD X (compareOp .Lt) ltI:=fun x y z h=>by
 unfold ltI at h
 split at h
 ·cases h
  exact OpR.imp cq0 fun vx vy H Q ⟨Hf,s,r1,r2,k⟩=>⟨_,_,r1,r2,k _ H Hf (Grow.refl s) rfl⟩
 ·cases h
theorem cq7 : OpD X (compareOp .LtE) leI:=fun x y z h=>by
 unfold leI at h
 split at h
 ·cases h
  exact OpR.imp cq1 fun vx vy H Q ⟨Hf,s,r1,r2,k⟩=>⟨_,_,r1,r2,k _ H Hf (Grow.refl s) rfl⟩
 ·cases h
theorem cr0 : OpD X (compareOp .Gt) gtI:=fun x y z h=>by
 unfold gtI at h
 split at h
 ·cases h
  exact OpR.imp cq2 fun vx vy H Q ⟨Hf,s,r1,r2,k⟩=>⟨_,_,r1,r2,k _ H Hf (Grow.refl s) rfl⟩
 ·cases h
theorem cr1 : OpD X (compareOp .GtE) geI:=fun x y z h=>by
 unfold geI at h
 split at h
 ·cases h
  exact OpR.imp cq3 fun vx vy H Q ⟨Hf,s,r1,r2,k⟩=>⟨_,_,r1,r2,k _ H Hf (Grow.refl s) rfl⟩
 ·cases h
mutual
theorem Rep.reads {pins : List (Addr × Obj)} {σ : L2.St} {H : Hp} {s : Shared} (I : Inv X pins σ H s) : ∀ {d : D} {v : V} {u : Value},Rep X.K H d v → K8 v u → ∃ as,Reads s.heap u d as
 | .none,_,_,h,r=>by cases h; cases r; exact ⟨_,.none⟩
 | .bool b,_,_,h,r=>by cases h; cases r; exact ⟨_,.bool b⟩
 | .int i,_,_,h,r=>by cases h; obtain ⟨t,rfl⟩:=r; exact ⟨_,.int i t⟩
 | .str x,_,_,h,r=>by cases h; obtain ⟨t,rfl⟩:=r; exact ⟨_,.str x t⟩
 | .tuple ds,_,_,⟨a,vs,h1,h2,h3⟩,r=>by
  subst h1; cases r
  obtain ⟨its,rv,⟨o,ho,hc,n,hd⟩,_⟩:=I.tuple h2
  obtain ⟨as,q⟩:=Reps.reads I h3 rv
  exact ⟨_,.tuple ho hc hd (by simpa using q)⟩
 | .list ds,_,_,⟨a,vs,h1,h2,h3⟩,r=>by
  subst h1; cases r
  obtain ⟨its,rv,pl,_⟩:=I.list h2
  obtain ⟨o,ho,hc,n,hd⟩:=pl.isList
  obtain ⟨as,q⟩:=Reps.reads I h3 rv
  exact ⟨_,.list ho hc hd (by simpa using q)⟩
 | .dict _,_,_,h,_=>h.elim
theorem Reps.reads {pins : List (Addr × Obj)} {σ : L2.St} {H : Hp} {s : Shared} (I : Inv X pins σ H s) : ∀ {ds : List D} {vs : List V} {us : List Value},Reps X.K H ds vs → F6 vs us → ∃ as,ReadsAll s.heap us ds as
 | [],_,_,h,r=>by cases h; cases r; exact ⟨_,.nil⟩
 | d :: ds,_,_,⟨v,vr,h1,h2,h3⟩,r=>by
  subst h1
  cases r with
  | cons r1 r2 =>
   obtain ⟨as,q1⟩:=Rep.reads I h2 r1
   obtain ⟨bs,q2⟩:=Reps.reads I h3 r2
   exact ⟨_,.cons q1 q2⟩
end
noncomputable def eqD (x y : D) : Option D:=if SeqAt.shaped x = true ∧ SeqAt.shaped y = true then some (.bool (PyData.eqv x y)) else none
noncomputable def neD (x y : D) : Option D:=if SeqAt.shaped x = true ∧ SeqAt.shaped y = true then some (.bool (!PyData.eqv x y)) else none
theorem cr2 (hu : X.A.units + 64 < cLine) : OpD X (compareOp .Eq) eqD:=fun x y z h=>by
 unfold eqD at h
 split at h
 ·rename_i c
  cases h
  intro pins s σ H vx vy v u Q I rx ry ⟨Hf,ss,r1,r2,k⟩
  obtain ⟨as,q1⟩:=Rep.reads I (r1.mono ss) rx
  obtain ⟨bs,q2⟩:=Rep.reads I (r2.mono ss) ry
  exact eq_dataH q1 q2 c.1 c.2 hu ⟨.bl _,H,I,rfl,k _ H Hf (Grow.refl ss) rfl⟩
 ·cases h
theorem cq5 (hu : X.A.units + 64 < cLine) : OpD X (compareOp .NotEq) neD:=fun x y z h=>by
 unfold neD at h
 split at h
 ·rename_i c
  cases h
  intro pins s σ H vx vy v u Q I rx ry ⟨Hf,ss,r1,r2,k⟩
  obtain ⟨as,q1⟩:=Rep.reads I (r1.mono ss) rx
  obtain ⟨bs,q2⟩:=Rep.reads I (r2.mono ss) ry
  exact ne_dataH q1 q2 c.1 c.2 hu ⟨.bl _,H,I,rfl,k _ H Hf (Grow.refl ss) rfl⟩
 ·cases h
noncomputable def isN (x y : D) : Option D:=match x,y with
 | .none,.none=>some (.bool true)
 | .dict _,_=>none
 | _,.none=>some (.bool false)
 | _,_=>none
theorem be5 {K : PySem.W.Frag} {H : Hp} {d : D} {v : V} (h : Rep K H d v) : (decide (v = .non)) = (match d with | .none=>true | _=>false):=by
 cases d with
 | none=>cases h; rfl
 | bool b=>cases h; rfl
 | int b=>cases h; rfl
 | str b=>cases h; rfl
 | tuple ds=>obtain ⟨a,vs,rfl,_⟩:=h; rfl
 | list ds=>obtain ⟨a,vs,rfl,_⟩:=h; rfl
 | dict ds=>exact h.elim
theorem cd2 : OpD X (compareOp .Is) isN:=fun x y z h=>by
 refine OpR.imp cc5 fun vx vy H Q ⟨Hf,s,r1,r2,k⟩=>?_
 have e:=be5 r1
 cases y <;> cases x <;> simp only [isN,Option.some.injEq,reduceCtorEq] at h <;>
  (subst h; simp only at e; rw [e]; exact ⟨r2,k _ H Hf (Grow.refl s) rfl⟩)
noncomputable def cd5 (x y : D) : Option D:=match x,y with
 | .none,.none=>some (.bool false)
 | .dict _,_=>none
 | _,.none=>some (.bool true)
 | _,_=>none
theorem bK3 : OpD X (compareOp .IsNot) cd5:=fun x y z h=>by
 refine OpR.imp bJ6 fun vx vy H Q ⟨Hf,s,r1,r2,k⟩=>?_
 have e:=be5 r1
 cases y <;> cases x <;> simp only [cd5,Option.some.injEq,reduceCtorEq] at h <;>
  (subst h; simp only at e; rw [e]; exact ⟨r2,k _ H Hf (Grow.refl s) rfl⟩)
noncomputable def D9 (h1 h2 : D → D → Option D) (f g k : DE) : DE:=fun ρ=>(f ρ).bind fun x=>(g ρ).bind fun y=>(h1 x y).bind fun z=>match z with
 | .bool true=>(k ρ).bind fun w=>h2 y w
 | .bool false=>some (.bool false)
 | _=>none
theorem bB4 {op op' : CmpOp} {h1 h2 : D → D → Option D} {a b c : Expr} {f g k : DE} {pos : Pos} (o1 : OpD X (compareOp op) h1) (o2 : OpD X (compareOp op') h2) (ha : JE X a f) (hb : JE X b g) (hc : JE X c k)
  (hm : lastMarks [op,op'] [b,c] = false:=by with_unfolding_all rfl) : JE X (.Compare a [op,op'] [b,c] pos) (D9 h1 h2 f g k):=fun ρ d q=>by
 obtain ⟨x,e1,q⟩:=xbm q
 obtain ⟨y,e2,q⟩:=xbm q
 obtain ⟨z,e3,q⟩:=xbm q
 split at q
 ·obtain ⟨w,e4,e5⟩:=xbm q
  refine D4 (aP1 (o1 x y _ e3) (o2 y w d e5) (ha ρ x e1) (hb ρ y e2) (hc ρ w e4) hm) fun σ H Q ⟨H0,Hf,s,sl,kk⟩=>?_
  refine ⟨H0,Hf,s,sl,fun v H1 Hf1 g1 r1=>⟨H0,Hf1,g1.sub,sl.grow g1,fun u H2 Hf2 g2 r2=>⟨Hf2,g2.sub,r1.mono g2.ext,r2,fun z' H3 Hf3 g3 r3=>?_⟩⟩⟩
  refine ⟨true,r3,aC0 ⟨H0,Hf3,g3.sub,sl.grow ((g1.trans g2).trans g3),fun w' H4 Hf4 g4 r4=>⟨Hf4,g4.sub,r2.mono (g3.trans g4).ext,r4,fun z2 H5 Hf5 g5 r5=>?_⟩⟩⟩
  exact kk z2 H5 Hf5 ((((g1.trans g2).trans g3).trans g4).trans g5) r5
 ·cases q
  intro pins s σ H Q I ⟨H0,Hf,ss,sl,kk⟩
  refine aP1 (tc:=fun _ _ _=>False) (r':=fun _ _ _ _=>False) (o1 x y _ e3) (fun _ _ _ _ _ _ _ _ _ _ _ _ h=>h.elim) (ha ρ x e1) (hb ρ y e2) (fun _ _ _ _ _ _ h=>h.elim) hm pins s σ H Q I ?_
  refine ⟨H0,Hf,ss,sl,fun v H1 Hf1 g1 r1=>⟨H0,Hf1,g1.sub,sl.grow g1,fun u H2 Hf2 g2 r2=>⟨Hf2,g2.sub,r1.mono g2.ext,r2,fun z' H3 Hf3 g3 r3=>?_⟩⟩⟩
  exact ⟨false,r3,aC1 (kk _ H3 Hf3 ((g1.trans g2).trans g3) rfl)⟩
 ·cases q
theorem ci2 {op : BoolOp} {a : Expr} {f : DE} {pos : Pos} (h : JE X a f) : JE X (.BoolOp op [a] pos) f:=fun ρ d q=>cb7 (h ρ d q)
noncomputable def G9 (f g : DE) : DE:=fun ρ=>(f ρ).bind fun x=>match x with
 | .bool true=>g ρ
 | .bool false=>some (.bool false)
 | _=>none
noncomputable def dOr (f g : DE) : DE:=fun ρ=>(f ρ).bind fun x=>match x with
 | .bool true=>some (.bool true)
 | .bool false=>g ρ
 | _=>none
noncomputable def ab2 (f : DE) : DE:=fun ρ=>(f ρ).bind fun x=>match x with
 | .bool c=>some (.bool (!c))
 | _=>none
theorem cj0 {a b : Expr} {T2 : List Expr} {f g : DE} {pos : Pos} (ha : JE X a f) (hb : JE X (.BoolOp .And (b :: T2) pos) g) : JE X (.BoolOp .And (a :: b :: T2) pos) (G9 f g):=fun ρ d q=>by
 obtain ⟨x,e1,q⟩:=xbm q
 split at q
 ·refine D4 (bw5 (ha ρ _ e1) (hb ρ d q)) fun σ H Q ⟨H0,Hf,s,sl,k⟩=>⟨H0,Hf,s,sl,fun v H1 Hf1 g1 r1=>⟨true,r1,aC0 ⟨H0,Hf1,g1.sub,sl.grow g1,fun u H2 Hf2 g2 r2=>k u H2 Hf2 (g1.trans g2) r2⟩⟩⟩
 ·cases q
  refine D4 (bw5 (tb:=fun _ _ _=>False) (ha ρ _ e1) (fun _ _ _ _ _ _ h=>h.elim)) fun σ H Q ⟨H0,Hf,s,sl,k⟩=>⟨H0,Hf,s,sl,fun v H1 Hf1 g1 r1=>⟨false,r1,aC1 (k _ H1 Hf1 g1 rfl)⟩⟩
 ·cases q
theorem cs1 {a b : Expr} {T2 : List Expr} {f g : DE} {pos : Pos} (ha : JE X a f) (hb : JE X (.BoolOp .Or (b :: T2) pos) g) : JE X (.BoolOp .Or (a :: b :: T2) pos) (dOr f g):=fun ρ d q=>by
 obtain ⟨x,e1,q⟩:=xbm q
 split at q
 ·cases q
  refine D4 (bS0 (tb:=fun _ _ _=>False) (ha ρ _ e1) (fun _ _ _ _ _ _ h=>h.elim)) fun σ H Q ⟨H0,Hf,s,sl,k⟩=>⟨H0,Hf,s,sl,fun v H1 Hf1 g1 r1=>⟨true,r1,aC0 (k _ H1 Hf1 g1 rfl)⟩⟩
 ·refine D4 (bS0 (ha ρ _ e1) (hb ρ d q)) fun σ H Q ⟨H0,Hf,s,sl,k⟩=>⟨H0,Hf,s,sl,fun v H1 Hf1 g1 r1=>⟨false,r1,aC1 ⟨H0,Hf1,g1.sub,sl.grow g1,fun u H2 Hf2 g2 r2=>k u H2 Hf2 (g1.trans g2) r2⟩⟩⟩
 ·cases q
theorem ci3 {a : Expr} {f : DE} {pos : Pos} (ha : JE X a f) : JE X (.UnaryOp .Not a pos) (ab2 f):=fun ρ d q=>by
 obtain ⟨x,e1,q⟩:=xbm q
 split at q
 ·cases q
  exact D4 (cb8 (ha ρ _ e1)) fun σ H Q ⟨H0,Hf,s,sl,k⟩=>⟨H0,Hf,s,sl,fun v H1 Hf1 g1 r1=>⟨_,r1,k _ H1 Hf1 g1 rfl⟩⟩
 ·cases q
noncomputable def J6 : D → Option Bool
 | .none=>some false
 | .bool b=>some b
 | .int i=>some (i != 0)
 | .str x=>if x.length ≤ 16777216 then some ((x.length : Int) != 0) else none
 | .list ds=>some (!ds.isEmpty)
 | .tuple ds=>some (!ds.isEmpty)
 | .dict _=>none
noncomputable def C3 (f : DE) : Rho → Option Bool:=fun ρ=>(f ρ).bind J6
theorem cf6 {a : Expr} {f : DE} (ha : JE X a f) (he : ∀ whole,isTrue a X.env whole = (do let v ← whole; standAt a.pos; holding [v] (truthy v)):=by intro _; rfl) : JT X a (C3 f):=fun ρ c q=>by
 obtain ⟨d,e1,e2⟩:=xbm q
 refine aI2 (bv6 (ha ρ d e1) he) fun σ H Q ⟨H0,Hf,s,sl,k⟩=>⟨H0,Hf,s,sl,fun v H1 Hf1 g1 r1=>⟨c,?_,k H1 Hf1 g1⟩⟩
 cases d with
 | none=>cases e2; cases r1; rfl
 | bool b=>cases e2; cases r1; rfl
 | int i=>cases e2; cases r1; rfl
 | str x =>
  simp only [J6] at e2
  split at e2
  ·rename_i hx; cases e2; cases r1; exact ⟨by rw [sizeLine_eq]; exact hx,rfl⟩
  ·cases e2
 | list ds =>
  cases e2
  obtain ⟨a,vs,rfl,h2,h3⟩:=r1
  refine .inl ⟨vs,G2 g1.sub h2,?_⟩
  have:=h3.length
  cases ds <;> cases vs <;> simp_all
 | tuple ds =>
  cases e2
  obtain ⟨a,vs,rfl,h2,h3⟩:=r1
  refine .inr (.inl ⟨vs,E2 g1.sub h2,?_⟩)
  have:=h3.length
  cases ds <;> cases vs <;> simp_all
 | dict _=>cases e2
noncomputable def C6 : D → Option Bool
 | .bool b=>some b
 | _=>none
noncomputable def tB2 (h : D → D → Option D) (f g : DE) : Rho → Option Bool:=fun ρ=>(B0 h f g ρ).bind C6
theorem bh4 {d : D} {c : Bool} (h : C6 d = some c) : d = .bool c:=by
 cases d <;> simp [C6] at h
 subst h; rfl
theorem cf8 {op : CmpOp} {h : D → D → Option D} {a b : Expr} {f g : DE} {pos : Pos} (o : OpD X (compareOp op) h) (ha : JE X a f) (hb : JE X b g) (hm : behindInMarks op b = false:=by first | exact bx8 _ | rfl) : JT X (.Compare a [op] [b] pos) (tB2 h f g):=fun ρ c q=>by
 obtain ⟨d,q,e⟩:=xbm q
 obtain ⟨x,h1,q⟩:=xbm q
 obtain ⟨y,h2,h3⟩:=xbm q
 have:=bh4 e
 subst this
 refine aI2 (bI1 (o x y _ h3) (ha ρ x h1) (hb ρ y h2) hm) fun σ H Q ⟨H0,Hf,s,sl,k⟩=>?_
 refine ⟨H0,Hf,s,sl,fun v H1 Hf1 g1 r1=>⟨H0,Hf1,g1.sub,sl.grow g1,fun u H2 Hf2 g2 r2=>?_⟩⟩
 exact ⟨Hf2,g2.sub,r1.mono g2.ext,r2,fun w H3 Hf3 g3 r3=>⟨c,r3,k H3 Hf3 ((g1.trans g2).trans g3)⟩⟩
noncomputable def M9 (f g : Rho → Option Bool) : Rho → Option Bool:=fun ρ=>(f ρ).bind fun c=>if c then g ρ else some false
noncomputable def D0 (f g : Rho → Option Bool) : Rho → Option Bool:=fun ρ=>(f ρ).bind fun c=>if c then some true else g ρ
noncomputable def B6 (f : Rho → Option Bool) : Rho → Option Bool:=fun ρ=>(f ρ).map fun c=>!c
theorem aI1 {e : Expr} {t t' : TT} (h : PW X e t) (i : ∀ σ H Q,t' σ H Q → t σ H Q) : PW X e t':=fun whole pins s σ H Q I q=>h whole pins s σ H Q I (i σ H Q q)
theorem bz7 {e : Expr} {f : Rho → Option Bool} (h : JW X e f) : JT X e f:=fun ρ c q=>(h ρ c q).pt
theorem bM1 {a : Expr} {f : Rho → Option Bool} {pos : Pos} (h : JT X a f) : JW X (.BoolOp .And [a] pos) f:=fun ρ c q=>bH8 (h ρ c q)
theorem cf2 {a : Expr} {f : Rho → Option Bool} {pos : Pos} (h : JT X a f) : JW X (.BoolOp .Or [a] pos) f:=fun ρ c q=>ca5 (h ρ c q)
theorem cf3 {a b : Expr} {T2 : List Expr} {f g : Rho → Option Bool} {pos : Pos} (ha : JT X a f) (hb : JW X (.BoolOp .And (b :: T2) pos) g) : JW X (.BoolOp .And (a :: b :: T2) pos) (M9 f g):=fun ρ c q=>by
 obtain ⟨x,e1,q⟩:=xbm q
 cases x with
 | true=>exact aI1 (bv5 (ha ρ _ e1) (hb ρ c (by simpa using q))) fun σ H Q ⟨H0,Hf,s,sl,k⟩=>⟨H0,Hf,s,sl,fun H1 Hf1 g1=>aC0 ⟨H0,Hf1,g1.sub,sl.grow g1,fun H2 Hf2 g2=>k H2 Hf2 (g1.trans g2)⟩⟩
 | false =>
  have : c = false:=by simpa using q.symm
  subst this
  exact aI1 (bv5 (tB':=fun _ _ _=>False) (ha ρ _ e1) (fun _ _ _ _ _ _ _ h=>h.elim)) fun σ H Q ⟨H0,Hf,s,sl,k⟩=>⟨H0,Hf,s,sl,fun H1 Hf1 g1=>aC1 (k H1 Hf1 g1)⟩
theorem cr7 {a b : Expr} {T2 : List Expr} {f g : Rho → Option Bool} {pos : Pos} (ha : JT X a f) (hb : JW X (.BoolOp .Or (b :: T2) pos) g) : JW X (.BoolOp .Or (a :: b :: T2) pos) (D0 f g):=fun ρ c q=>by
 obtain ⟨x,e1,q⟩:=xbm q
 cases x with
 | false=>exact aI1 (bR7 (ha ρ _ e1) (hb ρ c (by simpa using q))) fun σ H Q ⟨H0,Hf,s,sl,k⟩=>⟨H0,Hf,s,sl,fun H1 Hf1 g1=>aC1 ⟨H0,Hf1,g1.sub,sl.grow g1,fun H2 Hf2 g2=>k H2 Hf2 (g1.trans g2)⟩⟩
 | true =>
  have : c = true:=by simpa using q.symm
  subst this
  exact aI1 (bR7 (tB':=fun _ _ _=>False) (ha ρ _ e1) (fun _ _ _ _ _ _ _ h=>h.elim)) fun σ H Q ⟨H0,Hf,s,sl,k⟩=>⟨H0,Hf,s,sl,fun H1 Hf1 g1=>aC0 (k H1 Hf1 g1)⟩
theorem cf7 {a : Expr} {f : Rho → Option Bool} {pos : Pos} (ha : JT X a f) : JT X (.UnaryOp .Not a pos) (B6 f):=fun ρ c q=>by
 obtain ⟨x,e1,e2⟩:=Option.map_eq_some_iff.mp q
 subst e2
 exact aI2 (ca6 (ha ρ x e1)) fun σ H Q ⟨H0,Hf,s,sl,k⟩=>⟨H0,Hf,s,sl,fun H1 Hf1 g1=>k H1 Hf1 g1⟩
noncomputable def as8 (t : Rho → Option Bool) (f g : DE) : DE:=fun ρ=>(t ρ).bind fun c=>if c then f ρ else g ρ
theorem ci7 {c a b : Expr} {t : Rho → Option Bool} {f g : DE} {pos : Pos} (hc : JT X c t) (ha : JE X a f) (hb : JE X b g) : JE X (.IfExp c a b pos) (as8 t f g):=fun ρ d q=>by
 obtain ⟨x,e1,q⟩:=xbm q
 cases x with
 | true=>exact D4 (aP0 (tb:=fun _ _ _=>False) (hc ρ _ e1) (ha ρ d (by simpa using q)) (fun _ _ _ _ _ _ h=>h.elim)) fun σ H Q ⟨H0,Hf,s,sl,k⟩=>⟨H0,Hf,s,sl,fun H1 Hf1 g1=>aC0 ⟨H0,Hf1,g1.sub,sl.grow g1,fun u H2 Hf2 g2 r2=>k u H2 Hf2 (g1.trans g2) r2⟩⟩
 | false=>exact D4 (aP0 (ta:=fun _ _ _=>False) (hc ρ _ e1) (fun _ _ _ _ _ _ h=>h.elim) (hb ρ d (by simpa using q))) fun σ H Q ⟨H0,Hf,s,sl,k⟩=>⟨H0,Hf,s,sl,fun H1 Hf1 g1=>aC1 ⟨H0,Hf1,g1.sub,sl.grow g1,fun u H2 Hf2 g2 r2=>k u H2 Hf2 (g1.trans g2) r2⟩⟩
noncomputable def dIx (f : Rho → Option (Bool × List D)) (g : DE) : DE:=fun ρ=>(f ρ).bind fun q=>(g ρ).bind fun i=>match i with
 | .int i=>atI q.2 i
 | _=>none
theorem bH4 {K : PySem.W.Frag} {H : Hp} {ds : List D} {vs : List V} {i : Int} {d : D} (h : Reps K H ds vs) (e : atI ds i = some d) : ∃ v,atI vs i = some v ∧ Rep K H d v:=by
 unfold atI at e ⊢
 rw [h.length]
 obtain ⟨j,h1,h2⟩:=xbm e
 obtain ⟨v,h3,h4⟩:=h.get h2
 exact ⟨v,by rw [h1]; exact h3,h4⟩
theorem cs2 {a b : Expr} {f : Rho → Option (Bool × List D)} {g : DE} {pos : Pos} (ha : JQ X a f) (hb : JE X b g) (hs : av8 b:=by intro _ _; rfl) : JE X (.Subscript a b pos) (dIx f g):=fun ρ d q=>by
 obtain ⟨⟨t,ds⟩,h1,q⟩:=xbm q
 obtain ⟨y,h2,h3⟩:=xbm q
 split at h3
 ·refine D4 (bS2 bB6 (ha ρ t ds h1) (hb ρ _ h2) hs) fun σ H Q ⟨H0,Hf,s,sl,k⟩=>?_
  refine ⟨H0,Hf,s,sl,fun v H1 Hf1 g1 ⟨p,vs,e1,e2,e3⟩=>⟨H0,Hf1,g1.sub,sl.grow g1,fun u H2 Hf2 g2 r2=>?_⟩⟩
  obtain ⟨w,q1,q2⟩:=bH4 (e3.mono g2.ext) h3
  cases t with
  | true=>exact .inr (.inl ⟨p,vs,_,w,e1,r2,E2 g2.big e2,q1,k w H2 Hf2 (g1.trans g2) q2⟩)
  | false=>exact .inl ⟨p,vs,_,w,e1,r2,G2 g2.big e2,q1,k w H2 Hf2 (g1.trans g2) q2⟩
 ·cases h3
noncomputable def P5 (xs : List D) (lo hi : Option Int) : List D:=(xs.drop (HT.sIx xs.length 0 lo)).take (HT.sIx xs.length xs.length hi - HT.sIx xs.length 0 lo)
theorem ax4 {K : PySem.W.Frag} {H : Hp} {ds : List D} {vs : List V} (h : Reps K H ds vs) (lo hi : Option Int) : Reps K H (P5 ds lo hi) (aT5 vs lo hi):=by
 unfold P5 aT5
 rw [h.length]
 exact (h.drop _).take _
noncomputable def JO (X : Cx) (e : Option Expr) (f : Rho → Option (Option Int)) : Prop:=∀ ρ o,f ρ = some o → PO X e (fun σ H Q=>∃ H0 Hf,F9 Hf H ∧ Slots X.K H0 ρ σ H Hf ∧ ∀ H' Hf',Grow H Hf H' Hf' → Q o H')
noncomputable def J8 : Rho → Option (Option Int):=fun _=>some none
noncomputable def V5 : D → Option Int
 | .int i=>some i
 | _=>none
noncomputable def E3 (f : DE) : Rho → Option (Option Int):=fun ρ=>(f ρ).bind fun d=>(V5 d).map some
theorem bN2 : JO X none J8:=fun ρ o q=>by
 cases q
 intro pins s σ H Q I ⟨H0,Hf,ss,sl,k⟩
 exact bI6 pins s σ H Q I (k H Hf (Grow.refl ss))
theorem bN1 {e : Expr} {f : DE} (h : JE X e f) : JO X (some e) (E3 f):=fun ρ o q=>by
 obtain ⟨d,e1,e2⟩:=xbm q
 obtain ⟨i,e3,e4⟩:=Option.map_eq_some_iff.mp e2
 subst e4
 cases d <;> simp [V5] at e3
 subst e3
 intro pins s σ H Q I ⟨H0,Hf,ss,sl,k⟩
 exact bI5 (h ρ _ e1) pins s σ H Q I ⟨H0,Hf,ss,sl,fun v H1 Hf1 g1 r1=>⟨_,r1,k H1 Hf1 g1⟩⟩
noncomputable def r6 (f : DE) (lo hi : Rho → Option (Option Int)) : DE:=fun ρ=>(f ρ).bind fun d=>(lo ρ).bind fun l=>(hi ρ).bind fun h=>match d with
 | .tuple xs=>some (.tuple (P5 xs l h))
 | _=>none
theorem ai5 {prog : Program} {w : World} {A : Around} {E : Value → Shared → Prop} {s : Shared} {t sl : Addr} {items : Array Value} {vl vu : Value} {lo hi : Option Int} {Q : Value → Shared → Prop} (ht : IsTup s.heap t items) (hs : s.heap.IsSliceOf sl vl vu .none) (pl : IsPart vl lo) (pu : IsPart vu hi)
  (hw : HT.sIx items.size 0 lo = 0 ∧ HT.sIx items.size items.size hi = items.size) (h : Q (.ref t) s) : wpAny (model prog w) A (getItem (.ref t) (.ref sl)) Q E s:=by
 obtain ⟨os,hos,hcs,hds⟩:=id hs
 have hTs : s.TypeIs (.ref sl) "slice" := ⟨os,hos,hcs⟩
 unfold getItem
 try with_reducible refine wpAny_holding ?_
 first | refine wpAny_bind (wpAny_pure ?_) | skip
 refine wpAny_bind (wpAny_sequenceKey ht.typeIs (by decide) ?_)
 refine wpAny_bind (wpAny_callSpecial?_slot (name:=Str.ofString "__getitem__") ht.typeIs PyProof.Rows.slot_tuple_getitem
  (wpAny_call_entry PyProof.Rows.slot_tuple_getitem ht.typeIs entry_tuple_getitem ?_ (args_tuple_getitem _ _)))
 show wpAny _ _ (Builtin.Tuple.tupleItemsOf (.ref t) >>= _) _ _ s
 refine wpAny_bind (tupleItemsOf_ ht ?_)
 refine wpAny_bind (wpAny_typeOf hTs ?_)
 rw [if_pos (by decide)]
 refine wpAny_bind (HT.sliceApplied_gen hs pl pu ?_)
 have hyes : ((((HT.sIx items.size 0 lo : Nat) : Int) == 0 && (1 : Int) == 1 && (HT.sIx items.size items.size hi - HT.sIx items.size 0 lo) == items.size) = true):=by
  rw [hw.1,hw.2]; simp
 show wpAny _ _ (if (((HT.sIx items.size 0 lo : Nat) : Int) == 0 && (1 : Int) == 1 && (HT.sIx items.size items.size hi - HT.sIx items.size 0 lo) == items.size) = true then _ else _) _ _ s
 rw [if_pos hyes]
 unfold Builtin.Tuple.tupleIsExact
 refine wpAny_bind (wpAny_bind (wpAny_typeOf ht.typeIs (wpAny_pure ?_)))
 rw [if_pos (by decide +kernel)]
 exact wpAny_bind (wpAny_rule (wpAny_pure ⟨_,rfl,wpAny_pure h⟩))
theorem aH3 : SlR X (fun x lo hi H Q=>∃ a xs,x = .ref a ∧ SqT X.K H a xs ∧ (HT.sIx xs.length 0 lo = 0 ∧ HT.sIx xs.length xs.length hi = xs.length) ∧ Q (.ref a) H):=by
 intro pins s σ H x v vl vu lo hi sl Q I rx hs pl pu h
 obtain ⟨a,xs,rfl,hx,hw,q⟩:=h
 cases rx
 obtain ⟨its,r,ht,hz⟩:=I.tuple hx
 have hlen : its.toArray.size = xs.length:=by rw [List.size_toArray]; exact r.length.symm
 refine ⟨"tuple", _,PyProof.Rows.slot_tuple_getitem.lookup,ht.typeIs,?_⟩
 exact ai5 ht hs pl pu (by rw [hlen]; exact hw) ⟨.ref a,H,I,rfl,q⟩
theorem bA9 {a : Expr} {lo hi : Option Expr} {f : DE} {l h : Rho → Option (Option Int)} {pos p2 : Pos} (ha : JE X a f) (hl : JO X lo l) (hh : JO X hi h) : JE X (.Subscript a (.Slice lo hi none p2) pos) (r6 f l h):=fun ρ d q=>by
 obtain ⟨x,e1,q⟩:=xbm q
 obtain ⟨y,e2,q⟩:=xbm q
 obtain ⟨z,e3,q⟩:=xbm q
 cases x with
 | tuple xs =>
  cases q
  refine D4 (an4 (bZ8.or aH3) (ha ρ _ e1) (hl ρ y e2) (hh ρ z e3)) fun σ H Q ⟨H0,Hf,s,sl,k⟩=>?_
  refine ⟨H0,Hf,s,sl,fun v H1 Hf1 g1 ⟨p,vs,q1,q2,q3⟩=>⟨H0,Hf1,g1.sub,sl.grow g1,fun H2 Hf2 g2=>⟨H0,Hf2,g2.sub,sl.grow (g1.trans g2),fun H3 Hf3 g3=>?_⟩⟩⟩
  subst q1
  have q2':=E2 (g2.trans g3).ext q2
  have q3':=q3.mono (g2.trans g3).ext
  by_cases c : HT.sIx vs.length 0 y = 0 ∧ HT.sIx vs.length vs.length z = vs.length
  ·refine .inr ⟨p,vs,rfl,E2 g3.sub q2',c,k _ H3 Hf3 ((g1.trans g2).trans g3) ⟨p,vs,rfl,q2',?_⟩⟩
   have : P5 xs y z = xs:=by
    unfold P5
    rw [← q3.length,c.1,c.2]
    simp [q3.length]
   rw [this]; exact q3'
  ·refine .inl ⟨p,vs,rfl,E2 g3.sub q2',c,fun p' hp=>?_⟩
   exact k _ _ _ (((g1.trans g2).trans g3).trans (Grow.laid g3.sub hp)) ⟨p',_,rfl,SqT.of D6,(ax4 q3' y z).mono (E8 (g3.sub.free hp))⟩
 | _=>cases q
end
end G
namespace G
open PySem PySem.Spec PyProof.Rows L2
section
variable {X : Cx}
theorem bb5 : bootBuiltins "len" = some (.builtin "len"):=PySem.boot_len
theorem cl4 : bootBuiltins "all" = some (.builtin "all"):=by decide +kernel
theorem cl3 : bootBuiltins "isinstance" = some (.builtin "isinstance"):=by decide +kernel
theorem bb6 : bootBuiltins "int" = some (.type "int"):=by decide +kernel
theorem bQ1 : bootBuiltins "bool" = some (.type "bool"):=by decide +kernel
theorem bb3 : bootBuiltins "str" = some (.type "str"):=by decide +kernel
theorem bh5 : bootBuiltins "list" = some (.type "list"):=by decide +kernel
theorem aT9 : bootBuiltins "tuple" = some (.type "tuple"):=by decide +kernel
theorem cl1 : bootBuiltins "zip" = some (.type "zip"):=by decide +kernel
noncomputable def E5 (f : Rho → Option (Bool × List D)) : DE:=fun ρ=>(f ρ).map fun q=>.int q.2.length
theorem bB1 {e : Expr} {f : Rho → Option (Bool × List D)} {p pos : Pos} (hg : Gl X "len") (hm : X.mg "len" = none) (h : JQ X e f) (he : starEach [e] X.env = [(false,eval e X.env)]:=by rfl) : JE X (.Call (.Name "len" p) [e] [] pos) (E5 f):=fun ρ d q=>by
 obtain ⟨⟨t,ds⟩,h1,h2⟩:=Option.map_eq_some_iff.mp q
 subst h2
 refine D4 (P8 aL6 hg hm bb5 (E6 (h ρ t ds h1) J7 he) (he:=he)) fun σ H Q ⟨H0,Hf,s,sl,k⟩=>?_
 refine ⟨H0,Hf,s,sl,fun v H1 Hf1 g1 ⟨a,vs,e1,e2,e3⟩=>⟨a,vs,by rw [e1],?_,?_⟩⟩
 ·cases t with
  | true=>exact .inr e2
  | false=>exact .inl e2
 ·exact k _ H1 Hf1 g1 (by rw [e3.length]; rfl)
theorem bA7 {e : Expr} {f : Rho → Option (Bool × List D)} {p pos : Pos} (hg : Gl X "tuple") (hm : X.mg "tuple" = none) (h : JQ X e f) (hz : ∀ ρ ds,f ρ ≠ some (true,ds) ∨ True:=by intros; exact .inr trivial) (he : starEach [e] X.env = [(false,eval e X.env)]:=by rfl) :
  JE X (.Call (.Name "tuple" p) [e] [] pos) (fun ρ=>(f ρ).bind fun q=>if q.1 = true then none else some (.tuple q.2)):=fun ρ d q=>by
 obtain ⟨⟨t,ds⟩,h1,h2⟩:=xbm q
 cases t with
 | true=>simp at h2
 | false =>
  simp only [Bool.false_eq_true,if_false,Option.some.injEq] at h2
  subst h2
  refine D4 (U5 aC6 hg hm aT9 (E6 (h ρ false ds h1) J7 he) (he:=he)) fun σ H Q ⟨H0,Hf,s,sl,k⟩=>?_
  refine ⟨H0,Hf,s,sl,fun v H1 Hf1 g1 ⟨a,vs,e1,e2,e3⟩=>⟨a,vs,by rw [e1],.inl ⟨e2,fun l hl=>?_⟩⟩⟩
  exact k _ _ _ (g1.trans (Grow.laid g1.sub hl)) ⟨l,vs,rfl,SqT.of D6,e3.mono (E8 (g1.sub.free hl))⟩
theorem bN3 {e : Expr} {f : Rho → Option (Bool × List D)} {p pos : Pos} (hg : Gl X "list") (hm : X.mg "list" = none) (h : JQ X e f) (he : starEach [e] X.env = [(false,eval e X.env)]:=by rfl) : JN X (.Call (.Name "list" p) [e] [] pos) (fun ρ=>(f ρ).map fun q=>q.2):=fun ρ ds' q=>by
 obtain ⟨⟨t,ds⟩,h1,h2⟩:=Option.map_eq_some_iff.mp q
 subst h2
 refine D4 (U5 aL4 hg hm bh5 (E6 (h ρ t ds h1) J7 he) (he:=he)) fun σ H Q ⟨H0,Hf,s,sl,k⟩=>?_
 refine ⟨H0,Hf,s,sl,fun v H1 Hf1 g1 ⟨a,vs,e1,e2,e3⟩=>⟨a,vs,by rw [e1],?_,fun l hl=>?_⟩⟩
 ·cases t with
  | true=>exact .inr e2
  | false=>exact .inl e2
 ·exact k _ _ _ (g1.trans (Grow.made g1.sub hl)) ⟨l,vs,rfl,g1.big.free hl,D6,g1.sub.free hl,e3⟩
noncomputable def r8 (f : DE) : DE:=fun ρ=>(f ρ).bind fun d=>match d with
 | .int i=>some (.int i)
 | .bool b=>some (.int (if b then 1 else 0))
 | _=>none
theorem bB2 {e : Expr} {f : DE} {p pos : Pos} (hg : Gl X "int") (hm : X.mg "int" = none) (h : JE X e f) (he : starEach [e] X.env = [(false,eval e X.env)]:=by rfl) : JE X (.Call (.Name "int" p) [e] [] pos) (r8 f):=fun ρ d q=>by
 obtain ⟨x,h1,h2⟩:=xbm q
 split at h2
 ·cases h2
  exact D4 (U5 aF6 hg hm bb6 (E6 (h ρ _ h1) J7 he) (he:=he)) fun σ H Q ⟨H0,Hf,s,sl,k⟩ =>
   ⟨H0,Hf,s,sl,fun v H1 Hf1 g1 r=>.inl ⟨_,by rw [show v = _ from r],k _ H1 Hf1 g1 rfl⟩⟩
 ·cases h2
  exact D4 (U5 aF6 hg hm bb6 (E6 (h ρ _ h1) J7 he) (he:=he)) fun σ H Q ⟨H0,Hf,s,sl,k⟩ =>
   ⟨H0,Hf,s,sl,fun v H1 Hf1 g1 r=>.inr ⟨_,by rw [show v = _ from r],k _ H1 Hf1 g1 rfl⟩⟩
 ·cases h2
noncomputable def ba7 (f : DE) : DE:=fun ρ=>(f ρ).bind fun d=>match d with
 | .int i=>if i.natAbs.log2 < 1920 then some (.str (toString i)) else none
 | .bool b=>some (.str (if b = true then "True" else "False"))
 | _=>none
theorem aC7 : U2 X (.type "str") (fun xs H Q=>∃ b,xs = [.bl b] ∧ Q (.str (if b = true then "True" else "False")) H):=by
 intro pins s σ H xs us Q I r h
 obtain ⟨b,rfl,q⟩:=h
 obtain ⟨u,rfl,e⟩:=h9 r
 obtain rfl : u = Value.bool b:=e
 exact PySem.P.str_of_bool ⟨.str _,H,I.tok _,⟨_,rfl⟩,q⟩
theorem bA8 {e : Expr} {f : DE} {p pos : Pos} (hg : Gl X "str") (hm : X.mg "str" = none) (h : JE X e f) (he : starEach [e] X.env = [(false,eval e X.env)]:=by rfl) : JE X (.Call (.Name "str" p) [e] [] pos) (ba7 f):=fun ρ d q=>by
 obtain ⟨x,h1,h2⟩:=xbm q
 split at h2
 ·split at h2
  ·rename_i c
   cases h2
   exact D4 (U5 aL3 hg hm bb3 (E6 (h ρ _ h1) J7 he) (he:=he)) fun σ H Q ⟨H0,Hf,s,sl,k⟩ =>
    ⟨H0,Hf,s,sl,fun v H1 Hf1 g1 r=>⟨_,by rw [show v = _ from r],c,k _ H1 Hf1 g1 rfl⟩⟩
  ·cases h2
 ·cases h2
  exact D4 (U5 aC7 hg hm bb3 (E6 (h ρ _ h1) J7 he) (he:=he)) fun σ H Q ⟨H0,Hf,s,sl,k⟩ =>
   ⟨H0,Hf,s,sl,fun v H1 Hf1 g1 r=>⟨_,by rw [show v = _ from r],k _ H1 Hf1 g1 rfl⟩⟩
 ·cases h2
noncomputable def aU8 : List D → Option Bool
 | []=>some true
 | .bool b :: r=>(aU8 r).map fun c=>b && c
 | _ :: _=>none
theorem aU7 : ∀ {ds : List D} {c : Bool},aU8 ds = some c → ∃ bs : List Bool,ds = bs.map PyData.bool ∧ c = bs.all id
 | [],c,h=>by cases h; exact ⟨[],rfl,rfl⟩
 | .bool b :: r,c,h=>by
  obtain ⟨c',h1,h2⟩:=Option.map_eq_some_iff.mp h
  obtain ⟨bs,h3,h4⟩:=aU7 h1
  exact ⟨b :: bs,by simp [h3],by simp [← h2,h4]⟩
theorem ax5 {K : PySem.W.Frag} {H : Hp} : ∀ {bs : List Bool} {vs : List V},Reps K H (bs.map PyData.bool) vs → vs = bs.map V.bl
 | [],_,h=>h
 | _ :: _,_,⟨v,r,h1,h2,h3⟩=>by subst h1; rw [show v = _ from h2,ax5 h3]; rfl
theorem bq5 : U2 X (.builtin "all") (fun xs H Q=>X.calm = true ∧ ∃ (p : Addr) (bs : List Bool),xs = [.ref p] ∧ SqL X.K H p (bs.map V.bl) ∧ Q (.bl (bs.all id)) H):=by
 intro pins s σ H xs us Q I r h
 obtain ⟨hc,p,bs,rfl,hq,q⟩:=h
 obtain ⟨u,rfl,rx⟩:=h9 r
 cases rx
 obtain ⟨its,rv,pl,hz⟩:=I.list hq
 have hlen:=rv.length
 have hh : X.A.in1.handled = none:=I.ok.hd hc
 have hlt : p < s.heap.objs.size:=by obtain ⟨_,e,_⟩:=pl.isList; exact Heap.lt_size e
 refine call_all_walk (wpAny_pyIter_list pl.isList ?_)
 refine ⟨s.heap.objs.size,_,_,_,_,_,fun i=>(bs[i]?).getD false,rfl,Walks.list hh _ p (Nat.ne_of_lt hlt) its.toArray,⟨⟨_,Heap.get?_push_size _ rfl,rfl,rfl⟩,pl.isList.at fun o e=>Heap.get?_push_of_some _ e⟩,?_,?_⟩
 ·intro i v s' Q' E' hv hQ
  have hv' : its[i]? = some v:=by simpa using hv
  have : ∃ b,bs[i]? = some b:=by
   have : i < its.length:=(List.getElem?_eq_some_iff.mp hv').1
   have : i < bs.length:=by simpa using (by omega : i < (bs.map V.bl).length)
   exact ⟨bs[i],by simp [this]⟩
  obtain ⟨b,hb⟩:=this
  obtain ⟨u,hu,ru⟩:=rv.get (i:=i) (x:=.bl b) (by simp [hb])
  rw [hv'] at hu; cases hu
  cases ru
  exact wpAny_truthy_bool (by simpa [hb] using hQ)
 ·intro h' tk hk
  have e : ((List.range its.toArray.size).all fun i=>(bs[i]?).getD false) = bs.all id:=by
   have hn : its.toArray.size = bs.length:=by simpa using hlen.symm
   rw [hn,Bool.eq_iff_iff]
   simp only [List.all_eq_true,List.mem_range,id]
   constructor
   ·intro h x hx
    obtain ⟨i,hi,rfl⟩:=List.mem_iff_getElem.mp hx
    simpa [hi] using h i hi
   ·intro h i hi
    simpa [hi] using h bs[i] (List.getElem_mem hi)
  rw [e]
  have I1 : Inv X pins σ H { s with heap:=h',toks:=tk }:=by
   have I0 : Inv X pins σ H { s with heap:=s.heap.push { cls:=.type "list_iterator", data:=.fields #[.ref p,rawInt 0] } }:=I.kept (t':=s.toks) fun b o e=>Heap.get?_push_of_some _ e
   refine I.kept (t':=tk) fun b o e=>hk b o ?_ (Heap.get?_push_of_some _ e)
   intro hb
   have : b = s.heap.objs.size:=by simpa using hb
   subst this
   exact absurd (Heap.lt_size e) (Nat.lt_irrefl _)
  exact ⟨.bl (bs.all id),H,I1,rfl,q⟩
noncomputable def U6 (f : Rho → Option (Bool × List D)) : DE:=fun ρ=>(f ρ).bind fun q=>if q.1 = true then none else (aU8 q.2).map PyData.bool
theorem cj1 {e : Expr} {f : Rho → Option (Bool × List D)} {p pos : Pos} (hg : Gl X "all") (hm : X.mg "all" = none) (h : JQ X e f) (hc : X.calm = true:=by rfl) (he : starEach [e] X.env = [(false,eval e X.env)]:=by rfl) : JE X (.Call (.Name "all" p) [e] [] pos) (U6 f):=fun ρ d q=>by
 obtain ⟨⟨t,ds⟩,h1,h2⟩:=xbm q
 cases t with
 | true=>simp at h2
 | false =>
  simp only [Bool.false_eq_true,if_false] at h2
  obtain ⟨c,h3,h4⟩:=Option.map_eq_some_iff.mp h2
  subst h4
  obtain ⟨bs,h5,h6⟩:=aU7 h3
  subst h5 h6
  refine D4 (P8 bq5 hg hm cl4 (E6 (h ρ false _ h1) J7 he) (he:=he)) fun σ H Q ⟨H0,Hf,s,sl,k⟩=>?_
  refine ⟨H0,Hf,s,sl,fun v H1 Hf1 g1 ⟨a,vs,e1,e2,e3⟩=>⟨hc,a,bs,by rw [e1],?_,k _ H1 Hf1 g1 rfl⟩⟩
  rw [ax5 e3] at e2
  exact e2
noncomputable def K7 (T : String) (d : D) : Option Bool:=match T,d with
 | "int", .int _=>some true
 | "int", .bool _=>some true
 | "int", .none=>some false
 | "int", .str _=>some false
 | "int", .tuple _=>some false
 | "int", .list _=>some false
 | "bool", .int _=>some false
 | "bool", .bool _=>some true
 | "bool", .none=>some false
 | "bool", .str _=>some false
 | "bool", .tuple _=>some false
 | "bool", .list _=>some false
 | "str", .int _=>some false
 | "str", .bool _=>some false
 | "str", .none=>some false
 | "str", .str _=>some true
 | "str", .tuple _=>some false
 | "str", .list _=>some false
 | "tuple", .int _=>some false
 | "tuple", .bool _=>some false
 | "tuple", .none=>some false
 | "tuple", .str _=>some false
 | "tuple", .tuple _=>some true
 | "tuple", .list _=>some false
 | "list", .int _=>some false
 | "list", .bool _=>some false
 | "list", .none=>some false
 | "list", .str _=>some false
 | "list", .tuple _=>some false
 | "list", .list _=>some true
 | _,_=>none
noncomputable def tyD : D → String
 | .int _ => "int"
 | .bool _ => "bool"
 | .none => "NoneType"
 | .str _ => "str"
 | .tuple _ => "tuple"
 | .list _ => "list"
 | .dict _ => "dict"
theorem bP1 {K : PySem.W.Frag} {T : String} {d : D} {b : Bool} (h : K7 T d = some b) : PySem.W.kitOne K (.type (tyD d)) (.type T) = some b:=by
 unfold K7 at h
 split at h <;> first
  | (cases h; rfl)
  | cases h
theorem bE9 {T : String} : U2 X (.builtin "isinstance") (fun xs H Q=>∃ d x b,xs = [x,.ty T] ∧ Rep X.K H d x ∧ K7 T d = some b ∧ Q (.bl b) H):=by
 intro pins s σ H xs us Q I r h
 obtain ⟨d,x,b,rfl,hd,hb,q⟩:=h
 obtain ⟨u,c,rfl,rx,rc⟩:=bd2 r
 cases rc
 have e:=bP1 (K:=X.K) hb
 have fin : ∀ tk,EP X pins σ Q (.bool b) { s with toks:=tk }:=fun tk=>⟨.bl b,H,I.tok tk,rfl,q⟩
 cases d with
 | none=>cases hd; cases rx; exact PySem.W.kia_one PySem.W.kitx_none I.kIn True.intro e (fun z=>nomatch z) fin
 | bool y=>cases hd; cases rx; exact PySem.W.kia_one PySem.W.kitx_bool I.kIn True.intro e (fun z=>nomatch z) fin
 | int i=>cases hd; obtain ⟨t,rfl⟩:=rx; exact PySem.W.kia_one PySem.W.kitx_int I.kIn True.intro e (fun z=>nomatch z) fin
 | str i=>cases hd; obtain ⟨t,rfl⟩:=rx; exact PySem.W.kia_one PySem.W.kitx_str I.kIn True.intro e (fun z=>nomatch z) fin
 | tuple ds =>
  obtain ⟨a,vs,rfl,h2,h3⟩:=hd
  cases rx
  obtain ⟨its,rv,⟨o,ho,hc,_⟩,_⟩:=I.tuple h2
  exact PySem.W.kia_one PySem.W.kitx_tuple I.kIn ⟨o,ho,hc⟩ e (fun z=>nomatch z) fin
 | list ds =>
  obtain ⟨a,vs,rfl,h2,h3⟩:=hd
  cases rx
  obtain ⟨its,rv,pl,_⟩:=I.list h2
  obtain ⟨o,ho,hc,_⟩:=pl.isList
  exact PySem.W.kia_one PySem.W.kitx_list I.kIn ⟨o,ho,hc⟩ e (fun z=>nomatch z) fin
 | dict ds=>exact hd.elim
noncomputable def D5 (T : String) (f : DE) : DE:=fun ρ=>(f ρ).bind fun d=>(K7 T d).map PyData.bool
theorem ci6 {e : Expr} {f : DE} {x : Str} {T : String} {p p2 pos : Pos} (hg : Gl X "isinstance") (hm : X.mg "isinstance" = none) (hgT : Gl X x) (hmT : X.mg x = none) (hvT : bootBuiltins x = some (.type T)) (h : JE X e f)
  (hn : x ≠ "__name__" := by decide) (hd : (x == ("__debug__" : Str)) = false:=by decide)
  (he : starEach [e,.Name x p2] X.env = (false,eval e X.env) :: starEach [.Name x p2] X.env:=by rfl) (he2 : starEach [.Name x p2] X.env = [(false,eval (.Name x p2) X.env)]:=by rfl) (hpl : (backTo pos (starEach [.Name x p2] X.env)).any (·.1) = false:=by rfl) :
  JE X (.Call (.Name "isinstance" p) [e,.Name x p2] [] pos) (D5 T f):=fun ρ d q=>by
 obtain ⟨y,h1,h2⟩:=xbm q
 obtain ⟨b,h3,h4⟩:=Option.map_eq_some_iff.mp h2
 subst h4
 refine D4 (P8 (bE9 (T:=T)) hg hm cl3 (E6 (h ρ y h1) (E6 (bJ3 (v:=.ty T) hgT hmT hvT rfl hn hd) J7 he2) he) (he:=he) (hpl:=hpl)) fun σ H Q ⟨H0,Hf,s,sl,k⟩=>?_
 exact ⟨H0,Hf,s,sl,fun v H1 Hf1 g1 r=>⟨y,v,b,rfl,r.mono g1.sub,h3,k _ H1 Hf1 g1 rfl⟩⟩
noncomputable def spF (K : PySem.W.Frag) (n : Nat) (F : List D → Option D) : Sp:=fun vs H Q _=>vs.length = n ∧ ∃ Hf ds d,F9 Hf H ∧ Reps K Hf ds vs ∧ F ds = some d ∧ ∀ v H' Hf',Grow H Hf H' Hf' → Rep K Hf' d v → Q v H'
noncomputable def A9 (F : List D → Option D) (f : Rho → Option (List D)) : DE:=fun ρ=>(f ρ).bind F
theorem bO7 {k : Nat} {f : Addr} {fd : FuncData} {ps : List Str} {n : Nat} {F : List D → Option D} {x : Str} {e : Expr} {es : List Expr} {g : Rho → Option (List D)} {p pos : Pos} (Fk : FnOk X.prog X.w X.K X.mg X.base CX0 k f fd ps (spF X.K n F)) (hr : Room k X.A) (hg : Gl X x) (hm : X.mg x = some (.ref f)) (hk : PySem.W.keepIn X.K (.ref f) = true) (hb : k7 X.K fd ps [])
  (ha : JA X (e :: es) g) (hn : (e :: es).length = n:=by rfl) (hdb : (x == ("__debug__" : Str)) = false:=by decide) (he : starEach (e :: es) X.env = (false,eval e X.env) :: starEach es X.env:=by rfl) (hpl : (backTo pos (starEach es X.env)).any (·.1) = false:=by rfl) :
  JE X (.Call (.Name x p) (e :: es) [] pos) (A9 F g):=fun ρ d q=>by
 obtain ⟨ds,h1,h2⟩:=xbm q
 refine D4 (bJ2 Fk hr hg hm hk hb .nil bS3 (fun pos pins s σ H Q I t=>ha.run ρ ds h1 pos pins s σ H Q I t) hdb he hpl) fun σ H Q ⟨H0,Hf,s,sl,kk⟩=>?_
 refine ⟨H0,Hf,s,sl,fun vs H1 Hf1 g1 r1=>⟨?_,Hf1,ds,d,g1.sub,by rw [List.append_nil]; exact r1,h2,fun v H2 Hf2 g2 r2=>kk v H2 Hf2 (g1.trans g2) r2⟩⟩
 rw [List.append_nil,r1.length,ha.len ρ ds h1,hn]
inductive Fl where
 | nx (ρ : Rho)
 | rt (d : D)
 | bk (ρ : Rho)
 | ct (ρ : Rho)
noncomputable abbrev DS:=Rho → Option Fl
structure At (K : PySem.W.Frag) (H0 Hf0 : Hp) (ρ : Rho) (σ : L2.St) (H Hf : Hp) : Prop where
 gr : Grow H0 Hf0 H Hf
 sl : Slots K H0 ρ σ H Hf
noncomputable def Fl.ends (K : PySem.W.Frag) (H0 Hf0 Hf : Hp) (En : Ends) : Fl → Prop
 | .nx ρ=>∀ σ' H' Hf',At K H0 Hf0 ρ σ' H' Hf' → F9 Hf Hf' → En.nx σ' H'
 | .bk ρ=>∀ σ' H' Hf',At K H0 Hf0 ρ σ' H' Hf' → F9 Hf Hf' → En.bk σ' H'
 | .ct ρ=>∀ σ' H' Hf',At K H0 Hf0 ρ σ' H' Hf' → F9 Hf Hf' → En.ct σ' H'
 | .rt d=>∀ v H' Hf',Grow H0 Hf0 H' Hf' → Rep K Hf' d v → En.rt v H'
noncomputable def tJS (K : PySem.W.Frag) (H0 Hf0 : Hp) (ρ : Rho) (fl : Fl) : TS:=fun En σ H=>∃ Hf,At K H0 Hf0 ρ σ H Hf ∧ fl.ends K H0 Hf0 Hf En
noncomputable def JS (X : Cx) (st : Stmt) (f : DS) : Prop:=∀ ρ fl,f ρ = some fl → ∀ H0 Hf0,PS X st (tJS X.K H0 Hf0 ρ fl)
noncomputable def JSs (X : Cx) (sts : List Stmt) (f : DS) : Prop:=∀ ρ fl,f ρ = some fl → ∀ H0 Hf0,PSs X sts (tJS X.K H0 Hf0 ρ fl)
theorem P2 {st : Stmt} {t t' : TS} (h : PS X st t) (i : ∀ En σ H,t' En σ H → t En σ H) : PS X st t':=fun pins s σ H En I q=>h pins s σ H En I (i En σ H q)
theorem an2 {st : List Stmt} {t t' : TS} (h : PSs X st t) (i : ∀ En σ H,t' En σ H → t En σ H) : PSs X st t':=fun pins s σ H En I q=>h pins s σ H En I (i En σ H q)
theorem At.grow {K : PySem.W.Frag} {H0 Hf0 H Hf H' Hf' : Hp} {ρ : Rho} {σ : L2.St} (a : At K H0 Hf0 ρ σ H Hf) (g : Grow H Hf H' Hf') : At K H0 Hf0 ρ σ H' Hf':=⟨a.gr.trans g,a.sl.grow g⟩
theorem Fl.ends_mono {K : PySem.W.Frag} {H0 Hf0 Hf Hf' : Hp} {En : Ends} {fl : Fl} (h : fl.ends K H0 Hf0 Hf En) (e : F9 Hf Hf') : fl.ends K H0 Hf0 Hf' En:=by
 cases fl with
 | nx ρ=>exact fun σ' H' Hf'' a s=>h σ' H' Hf'' a (e.trans s)
 | bk ρ=>exact fun σ' H' Hf'' a s=>h σ' H' Hf'' a (e.trans s)
 | ct ρ=>exact fun σ' H' Hf'' a s=>h σ' H' Hf'' a (e.trans s)
 | rt d=>exact h
noncomputable def C7 : DS:=fun ρ=>some (.nx ρ)
noncomputable def B4 (f g : DS) : DS:=fun ρ=>(f ρ).bind fun fl=>match fl with
 | .nx ρ'=>g ρ'
 | fl=>some fl
theorem bM5 : JSs X [] C7:=fun ρ fl q H0 Hf0=>by
 cases q
 exact an2 bI3 fun En σ H ⟨Hf,a,e⟩=>e σ H Hf a (F9.refl _)
theorem bz9 {st : Stmt} {sts : List Stmt} {f g : DS} (h1 : JS X st f) (h2 : JSs X sts g) : JSs X (st :: sts) (B4 f g):=fun ρ fl q H0 Hf0=>by
 obtain ⟨fl1,e1,q⟩:=xbm q
 cases fl1 with
 | nx ρ' =>
  refine an2 (an3 (h1 ρ _ e1 H0 Hf0) (h2 ρ' fl q H0 Hf0)) fun En σ H ⟨Hf,a,e⟩=>⟨Hf,a,fun σ' H' Hf' a' s'=>⟨Hf',a',Fl.ends_mono e s'⟩⟩
 | rt d=>cases q; exact an2 (an3 (h1 ρ _ e1 H0 Hf0) p8) fun En σ H ⟨Hf,a,e⟩=>⟨Hf,a,e⟩
 | bk ρ'=>cases q; exact an2 (an3 (h1 ρ _ e1 H0 Hf0) p8) fun En σ H ⟨Hf,a,e⟩=>⟨Hf,a,e⟩
 | ct ρ'=>cases q; exact an2 (an3 (h1 ρ _ e1 H0 Hf0) p8) fun En σ H ⟨Hf,a,e⟩=>⟨Hf,a,e⟩
theorem bM4 {st : Stmt} {f : DS} (h1 : JS X st f) : JSs X [st] f:=fun ρ fl q H0 Hf0=>bI2 (h1 ρ fl q H0 Hf0)
noncomputable def B5 (f : DE) : DS:=fun ρ=>(f ρ).map Fl.rt
theorem cg0 {e : Expr} {f : DE} {pos : Pos} (h : JE X e f) : JS X (.Return (some e) pos) (B5 f):=fun ρ fl q H0 Hf0=>by
 obtain ⟨d,e1,e2⟩:=Option.map_eq_some_iff.mp q
 subst e2
 exact P2 (ca8 (h ρ d e1)) fun En σ H ⟨Hf,a,e⟩=>⟨H0,Hf,a.gr.sub,a.sl,fun v H' Hf' g r=>e v H' Hf' (a.gr.trans g) r⟩
noncomputable def sIf (t : Rho → Option Bool) (f g : DS) : DS:=fun ρ=>(t ρ).bind fun c=>if c then f ρ else g ρ
theorem cr9 {c : Expr} {a b : List Stmt} {t : Rho → Option Bool} {f g : DS} {pos : Pos} (hc : JT X c t) (ha : JSs X a f) (hb : JSs X b g) : JS X (.If c a b pos) (sIf t f g):=fun ρ fl q H0 Hf0=>by
 obtain ⟨x,e1,q⟩:=xbm q
 cases x with
 | true =>
  refine P2 (bR8 (hc ρ _ e1) (ha ρ fl (by simpa using q) H0 Hf0) p8) fun En σ H ⟨Hf,a,e⟩=>⟨H0,Hf,a.gr.sub,a.sl,fun H' Hf' g=>aC0 ⟨Hf',a.grow g,Fl.ends_mono e g.ext⟩⟩
 | false =>
  refine P2 (bR8 (hc ρ _ e1) p8 (hb ρ fl (by simpa using q) H0 Hf0)) fun En σ H ⟨Hf,a,e⟩=>⟨H0,Hf,a.gr.sub,a.sl,fun H' Hf' g=>aC1 ⟨Hf',a.grow g,Fl.ends_mono e g.ext⟩⟩
theorem Slots.set {K : PySem.W.Frag} {H0 H Hf : Hp} {ρ : Rho} {σ : L2.St} {i : Nat} {d : D} {v : V} (s : Slots K H0 ρ σ H Hf) (r : Rep K Hf d v) : Slots K H0 (ρ.set i (some (.val d))) (σ.set i (some v)) H Hf:=by
 refine ⟨by simp [s.len],fun j b e=>?_,fun j k ds es a h1 h2 h3 h4=>?_⟩
 ·by_cases q : i = j
  ·subst q
   have hi : i < ρ.length:=by
    have:=(List.getElem?_eq_some_iff.mp e).1
    simpa using this
   have hi' : i < σ.length:=by rw [← s.len]; exact hi
   rw [List.getElem?_set_self hi] at e
   cases e
   exact ⟨v,List.getElem?_set_self hi',r⟩
  ·rw [List.getElem?_set_ne q] at e
   obtain ⟨u,h1,h2⟩:=s.is j b e
   exact ⟨u,by rw [List.getElem?_set_ne q]; exact h1,h2⟩
 ·have hj : i ≠ j:=by
   intro q; subst q
   have hi : i < ρ.length:=by
    have:=(List.getElem?_eq_some_iff.mp h1).1
    simpa using this
   rw [List.getElem?_set_self hi] at h1
   cases h1
  have hk : i ≠ k:=by
   intro q; subst q
   have hi : i < ρ.length:=by
    have:=(List.getElem?_eq_some_iff.mp h2).1
    simpa using this
   rw [List.getElem?_set_self hi] at h2
   cases h2
  rw [List.getElem?_set_ne hj] at h1 h3
  rw [List.getElem?_set_ne hk] at h2 h4
  exact s.apart j k ds es a h1 h2 h3 h4
noncomputable def D3 (i : Nat) (f : DE) : DS:=fun ρ=>(f ρ).map fun d=>.nx (ρ.set i (some (.val d)))
theorem bA1 (i : Nat) {x : Str} {e : Expr} {f : DE} {pos pos' : Pos} (hN : X.N.Nodup) (h : JE X e f) (hi : X.N[i]? = some x:=by rfl) (hx : Loc X.env.scope x:=by first | exact Or.inl rfl | exact Or.inr rfl)
  (hs : swapsWith e (some (.Name x pos')) pos.line X.env = pure false:=by rfl) (hf : X.fn x = true ∨ X.env.scope.names.lookup x = some .local:=by first | exact .inl rfl | exact .inr rfl) : JS X (.Assign [.Name x pos'] e pos) (D3 i f):=fun ρ fl q H0 Hf0=>by
 obtain ⟨d,e1,e2⟩:=Option.map_eq_some_iff.mp q
 subst e2
 exact P2 (bv8 hN hi hx (h ρ d e1) hs hf) fun En σ H ⟨Hf,a,e⟩=>⟨H0,Hf,a.gr.sub,a.sl,fun v H' Hf' g r=>e _ H' Hf' ⟨a.gr.trans g,(a.sl.grow g).set r⟩ g.ext⟩
noncomputable def bv0 (i j : Nat) (f : Rho → Option (List D)) : DS:=fun ρ=>(f ρ).bind fun ds=>match ds with
 | [a,b]=>some (.nx ((ρ.set i (some (.val a))).set j (some (.val b))))
 | _=>none
end
end G
namespace G
open PySem PySem.Spec PyProof.Rows L2
theorem bp7 {prog : Program} {w : World} {A : Around} {R : Result → Shared → Prop} {s : Shared} {elt target iter : Expr} {ifs : List Expr} {scope : Scope} {pos : Pos} {it acc : Value} {env : Env} (I : Nat → Shared → Prop)
  (turn : ∀ n s,I n s → wpAny (model prog w) A (pyNext it) (fun r s1=>match r with
   | none=>R (.ok .next) s1
   | some v=>wpAny (model prog w) A (letOwnedTupleGo target it v) (fun _ s1'=>wpAny (model prog w) A (assign target env v) (fun _ s2 =>
     wpAny (model prog w) A (forIn ifs true fun c r=>if r = true then do let ok ← isTrue c env (eval c env); pure (ForInStep.yield ok) else pure (ForInStep.yield r)) (fun ok s3 =>
      if ok = true then wpAny (model prog w) A (eval elt env) (fun x s4 =>
       wpAny (model prog w) A (call (.builtin "list.append") [acc,x]) (fun _ s5=>∃ m,m < n ∧ I m s5) (fun _ _=>False) s4) (fun _ _=>False) s3
      else ∃ m,m < n ∧ I m s3) (fun _ _=>False) s2) (fun _ _=>False) s1') (fun _ _=>False) s1) (fun _ _=>False) s)
  (n : Nat) (h : I n s) :
  codeAny (model prog w) A (.compLoop (.ListComp elt [⟨target,iter,ifs,0⟩] scope pos) 0 it acc env) R s:=by
 refine codeAny_loop rfl I (fun n s hI=>?_) n h
 show wpAny _ A ((compTurn (.ListComp elt [⟨target,iter,ifs,0⟩] scope pos) 0 it acc env).onRaise (fun x=>do noteFrame x env; theTreesLotGoes x)) _ _ s
 refine wpAny_noted ?_
 rw [compTurn_list]
 refine wpAny_bind (wpAny_standAt (wpAny_bind (wpAny_mono (turn n s hI) (fun r s1 h1=>?_) fun _ _ h'=>h'.elim)))
 cases r with
 | none=>exact wpAny_pure h1
 | some v =>
  refine wpAny_bind (wpAny_mono h1 (fun _ s1' h1'=>?_) fun _ _ h'=>h'.elim)
  refine wpAny_bind (wpAny_mono h1' (fun _ s2 h2=>wpAny_bind (wpAny_mono h2 (fun ok s3 h3=>?_) fun _ _ h'=>h'.elim)) fun _ _ h'=>h'.elim)
  cases ok with
  | false=>exact wpAny_pure ⟨rfl,h3⟩
  | true =>
   exact wpAny_bind (wpAny_bind (wpAny_mono h3 (fun x s4 h4=>wpAny_bind (wpAny_mono h4 (fun _ s5 h5=>wpAny_pure (wpAny_pure ⟨rfl,h5⟩)) fun _ _ h'=>h'.elim)) fun _ _ h'=>h'.elim))
noncomputable def R1 (cells : List (Str × Addr)) : List (Str × NameKind) → List (Str × Addr) → List (Str × Addr)
 | [],cs=>cs
 | (n,k) :: r,cs=>if (k == NameKind.free) = true then R1 cells r ((n,(cells.lookup n).getD 0) :: cs) else R1 cells r cs
theorem az8 {env : Env} : ∀ (names : List (Str × NameKind)) (cs : List (Str × Addr)),(∀ y ∈ names,y.2 = .free → ∃ c,env.cells.lookup y.1 = some c) →
  (forIn names cs fun (x : Str × NameKind) (r : List (Str × Addr))=>if (x.2 == NameKind.free) = true then do let a ← cellOf env x.1; pure (ForInStep.yield ((x.1,a) :: r)) else pure (ForInStep.yield r) : Sem (List (Str × Addr))) = pure (R1 env.cells names cs)
 | [],cs,_=>rfl
 | (n,k) :: r,cs,h=>by
  rw [List.forIn_cons]
  have hr : ∀ y ∈ r,y.2 = .free → ∃ c,env.cells.lookup y.1 = some c:=fun y hy=>h y (List.mem_cons_of_mem _ hy)
  by_cases hk : (k == NameKind.free) = true
  ·obtain ⟨c,hc⟩:=h (n,k) List.mem_cons_self (by simpa using hk)
   have hc' : env.cells.lookup n = some c:=hc
   simp only [hk,if_true]
   have e : cellOf env n = pure c:=by unfold cellOf; rw [hc']
   rw [e]
   show (forIn r ((n,c) :: cs) _ : Sem _) = _
   rw [az8 r _ hr]
   simp only [R1,hk,if_true,hc',Option.getD_some]
  ·have hk' : (k == NameKind.free) = false:=by simpa using hk
   simp only [hk',Bool.false_eq_true,if_false]
   show (forIn r cs _ : Sem _) = _
   rw [az8 r _ hr]
   simp only [R1,hk',Bool.false_eq_true,if_false]
theorem bQ0 {scope : Scope} {env : Env} (h : ∀ y ∈ scope.names,y.2 = .free → ∃ c,env.cells.lookup y.1 = some c) : closureFor scope env = pure (R1 env.cells scope.names []):=by
 have:=az8 (env:=env) scope.names [] h
 unfold closureFor
 exact congrArg (fun z=>z >>= fun cs=>pure cs) this
theorem ap1 {cells : List (Str × Addr)} : ∀ {names : List (Str × NameKind)} {cs : List (Str × Addr)} {x : Str} {c : Addr},(x,c) ∈ R1 cells names cs → (x,c) ∈ cs ∨ ((x,NameKind.free) ∈ names ∧ c = (cells.lookup x).getD 0)
 | [],cs,x,c,h=>.inl h
 | (n,k) :: r,cs,x,c,h=>by
  unfold R1 at h
  split at h
  ·rename_i hk
   rcases ap1 h with q | ⟨q1,q2⟩
   ·rcases List.mem_cons.mp q with q | q
    ·cases q
     have : k = .free:=by simpa using hk
     subst this
     exact .inr ⟨List.mem_cons_self,rfl⟩
    ·exact .inl q
   ·exact .inr ⟨List.mem_cons_of_mem _ q1,q2⟩
  ·rcases ap1 h with q | ⟨q1,q2⟩
   ·exact .inl q
   ·exact .inr ⟨List.mem_cons_of_mem _ q1,q2⟩
theorem r9 {cells : List (Str × Addr)} : ∀ {names : List (Str × NameKind)} {cs : List (Str × Addr)} {x : Str},((x,NameKind.free) ∈ names ∨ ∃ c,(x,c) ∈ cs) → ∃ c,(x,c) ∈ R1 cells names cs
 | [],cs,x,h=>by
  rcases h with h | h
  ·cases h
  ·exact h
 | (n,k) :: r,cs,x,h=>by
  unfold R1
  rcases h with h | ⟨c,h⟩
  ·rcases List.mem_cons.mp h with q | q
   ·cases q
    rw [if_pos (by rfl)]
    exact r9 (.inr ⟨_,List.mem_cons_self⟩)
   ·split
    ·exact r9 (.inl q)
    ·exact r9 (.inl q)
  ·split
   ·exact r9 (.inr ⟨c,List.mem_cons_of_mem _ h⟩)
   ·exact r9 (.inr ⟨c,h⟩)
theorem al1 {l : List (Str × Addr)} {x : Str} {c : Addr} (h : (x,c) ∈ l) : ∃ c',l.lookup x = some c':=by
 induction l with
 | nil=>cases h
 | cons p r ih =>
  obtain ⟨n,a⟩:=p
  rw [List.lookup_cons]
  cases e : x == n with
  | true=>exact ⟨a,rfl⟩
  | false =>
   rcases List.mem_cons.mp h with q | q
   ·cases q; simp at e
   ·exact ih q
theorem an1 {scope : Scope} {env : Env} {x : Str} {k : NameKind} : (relabel scope env).names.lookup x = some k → ∃ k0,scope.names.lookup x = some k0 ∧ (k = k0 ∨ k0 = .free):=by
 unfold relabel
 simp only
 generalize scope.names = names
 induction names with
 | nil=>intro h; simp at h
 | cons p r ih =>
  obtain ⟨n,k1⟩:=p
  intro h
  rw [List.map_cons] at h
  by_cases hc : (k1 == NameKind.free && env.scope.kind == .function && env.kindOf n == some .cell) = true
  ·simp only [hc,if_true,List.lookup_cons] at h
   rw [List.lookup_cons]
   cases e : x == n with
   | true =>
    rw [e] at h
    rw [Bool.and_eq_true,Bool.and_eq_true] at hc
    exact ⟨k1,rfl,.inr (by simpa using hc.1.1)⟩
   | false=>rw [e] at h; exact ih h
  ·have hc' : (k1 == NameKind.free && env.scope.kind == .function && env.kindOf n == some .cell) = false:=by simpa using hc
   simp only [hc',Bool.false_eq_true,if_false,List.lookup_cons] at h
   rw [List.lookup_cons]
   cases e : x == n with
   | true=>rw [e] at h; cases h; exact ⟨_,rfl,.inl rfl⟩
   | false=>rw [e] at h; exact ih h
theorem aH9 {scope : Scope} {env : Env} {x : Str} : scope.names.lookup x = some .free → (relabel scope env).names.lookup x = some .cell ∨ (relabel scope env).names.lookup x = some .free:=by
 unfold relabel
 simp only
 generalize scope.names = names
 induction names with
 | nil=>intro h; simp at h
 | cons p r ih =>
  obtain ⟨n,k1⟩:=p
  intro h
  rw [List.lookup_cons] at h
  rw [List.map_cons]
  cases e : x == n with
  | true =>
   rw [e] at h
   cases h
   have en : x = n:=by simpa using e
   subst en
   by_cases hc : (NameKind.free == NameKind.free && env.scope.kind == .function && env.kindOf x == some .cell) = true
   ·simp only [hc,if_true,List.lookup_cons,e]; exact .inl trivial
   ·have hc' : (NameKind.free == NameKind.free && env.scope.kind == .function && env.kindOf x == some .cell) = false:=by simpa using hc
    simp only [hc',Bool.false_eq_true,if_false,List.lookup_cons,e]; exact .inr trivial
  | false =>
   rw [e] at h
   by_cases hc : (k1 == NameKind.free && env.scope.kind == .function && env.kindOf n == some .cell) = true
   ·simp only [hc,if_true,List.lookup_cons,e]; exact ih h
   ·have hc' : (k1 == NameKind.free && env.scope.kind == .function && env.kindOf n == some .cell) = false:=by simpa using hc
    simp only [hc',Bool.false_eq_true,if_false,List.lookup_cons,e]; exact ih h
noncomputable def G4 (X : Cx) (N' : List Str) (scope : Scope) (C : Addr) (s₀ : Shared) (H₀ : Hp) (ex : List Addr) : Cx where
 prog:=X.prog
 w:=X.w
 K:=X.K
 mg:=X.mg
 base:=X.base
 A:=X.A
 N:=N'
 s₀:=s₀
 H₀:=H₀
 env:=compEnvC scope (R1 X.env.cells scope.names []) C X.env
 outer:=X.stack
 stack:=X.stack
 ex:=ex
 fn:=fun _=>false
 calm:=X.calm
 pn:=[]
 xe:=fun _ _=>False
structure CompSc (X : Cx) (N' : List Str) (n : Nat) (caps : List Nat) (scope : Scope) : Prop where
 kind : scope.kind = .function
 cell : ∀ y ∈ scope.names,y.2 ≠ .cell
 loc : ∀ y ∈ scope.names,y.2 = .local → scope.names.lookup y.1 = some .local
 free : ∀ y ∈ scope.names,y.2 = .free → X.env.scope.names.lookup y.1 = some .cell ∨ X.env.scope.names.lookup y.1 = some .free
 len : N'.length = n + caps.length
 cap : ∀ (i j : Nat),caps[i]? = some j → ∃ x,X.N[j]? = some x ∧ N'[n + i]? = some x ∧ scope.names.lookup x = some .free
section
variable {X : Cx} {N' : List Str} {n : Nat} {caps : List Nat} {scope : Scope}
theorem S3 {l : List (Str × NameKind)} {x : Str} {k : NameKind} (h : l.lookup x = some k) : (x,k) ∈ l:=PySem.mem_of_lookup h
noncomputable def aC5 (n : Nat) (caps : List Nat) (σ : L2.St) : L2.St:=List.replicate n none ++ caps.map fun j=>(σ[j]?).join
theorem ba9 {pins : List (Addr × Obj)} {σ : L2.St} {H : Hp} {s : Shared} {h1 : Heap} {tk : Nat} {fp : List Addr} {m : Str → Option Value} (S : CompSc X N' n caps scope) (I : Inv X pins σ H s) (hf : ∀ b ∈ fp,n9 X pins H b) (hlt : ∀ b ∈ fp,b < s.heap.objs.size)
  (hns : h1.Ns s.heap.objs.size m) (hk : ∀ b o,s.heap.get? b = some o → h1.get? b = some o) :
  Inv (G4 X N' scope s.heap.objs.size s H fp) [] (aC5 n caps σ) H { s with heap:=h1,toks:=tk }:=by
 have cl_of : ∀ x c,(R1 X.env.cells scope.names []).lookup x = some c → X.env.cells.lookup x = some c:=fun x c h=>by
  have hm:=PySem.mem_of_lookup h
  rcases ap1 hm with q | ⟨q1,q2⟩
  ·cases q
  ·obtain ⟨c',hc'⟩:=I.ok.has x (S.free _ q1 rfl)
   rw [hc'] at q2
   rw [hc',q2]; rfl
 have cl_has : ∀ x,(x,NameKind.free) ∈ scope.names → ∃ c,(R1 X.env.cells scope.names []).lookup x = some c:=fun x h=>by
  obtain ⟨c,hc⟩:=r9 (cells:=X.env.cells) (cs:=[]) (.inl h)
  exact al1 hc
 have kind_free : ∀ x,((relabel scope X.env).names.lookup x = some .cell ∨ (relabel scope X.env).names.lookup x = some .free) → (x,NameKind.free) ∈ scope.names:=fun x h=>by
  rcases h with h | h
  ·obtain ⟨k0,e1,e2⟩:=an1 h
   rcases e2 with e2 | e2
   ·subst e2; exact absurd rfl (S.cell _ (S3 e1))
   ·subst e2; exact S3 e1
  ·obtain ⟨k0,e1,e2⟩:=an1 h
   rcases e2 with e2 | e2
   ·subst e2; exact S3 e1
   ·subst e2; exact S3 e1
 have cell_lt : ∀ x c,X.env.cells.lookup x = some c → c < s.heap.objs.size:=fun x c e=>by
  obtain ⟨v,q⟩:=I.cell x c e
  exact q.lt
 have ok : (G4 X N' scope s.heap.objs.size s H fp).Ok:=by
  refine ⟨I.ok.mod,S.kind,I.ok.glob,I.ok.blt,Nat.le_refl _,fun x y c e1 e2=>I.ok.inj x y c (cl_of x c e1) (cl_of y c e2),fun x hx=>cl_has x (kind_free x hx),fun x c e _=>(Bool.false_ne_true e).elim,I.ok.hd,I.ok.frames,.inl rfl,fun b hb=>⟨Nat.ne_of_lt (hlt b hb),fun x c e=>(hf b hb).2.2.2.2.1 x c (cl_of x c e)⟩,
   I.bs,Nat.le_trans I.ok.bsz I.sz,fun b o e hb=>?_,fun b hb hb2=>?_,I.stack,I.stkFree⟩
  ·rcases (hf b hb).2.2.2.1 with z | z
   ·exact I.ok.noex b o e z
   ·exact absurd (Nat.lt_of_lt_of_le (Heap.lt_size e) (Nat.le_trans I.ok.bsz z)) (Nat.lt_irrefl _)
  ·rcases List.mem_cons.mp (I.stkSub b hb2) with z | z
   ·exact (hf b hb).2.1 z
   ·exact (hf b hb).2.2.1 z
 refine ⟨ok,rfl,I.bare,Un.kept hk,⟨m,hns,fun i x v e1 e2 e3=>?_⟩,fun x c e=>?_,I.hok.fresh (Nat.le_refl _),fun x c e=>I.freeC x c (cl_of x c e),fun p hp=>absurd (show p ∈ ([] : List (Addr × Obj)) from hp) (by simp),I.hok.kept hk,?_⟩
 ·have hi : n ≤ i:=by
   rcases Nat.lt_or_ge i n with h | h
   ·unfold aC5 at e2
    rw [List.getElem?_append_left (by simpa using h),List.getElem?_replicate,if_pos h] at e2
    cases e2
   ·exact h
  unfold aC5 at e2
  rw [List.getElem?_append_right (by simpa using hi),List.getElem?_map] at e2
  simp only [List.length_replicate] at e2
  cases hj : caps[i - n]? with
  | none=>rw [hj] at e2; cases e2
  | some j =>
   rw [hj] at e2
   have e2' : (σ[j]?).join = some v:=by simpa using e2
   have e2'' : σ[j]? = some (some v):=by
    cases q : σ[j]? with
    | none=>rw [q] at e2'; cases e2'
    | some o=>rw [q] at e2'; simp at e2'; rw [e2']
   obtain ⟨y,q1,q2,q3⟩:=S.cap _ _ hj
   have : y = x:=by
    have e1' : N'[i]? = some x:=e1
    rw [show n + (i - n) = i by omega,e1'] at q2
    cases q2; rfl
   subst this
   obtain ⟨m0,hn0,hl0⟩:=I.loc
   have hv : Vis X.env.scope y:=by
    rcases S.free _ (S3 q3) rfl with z | z
    ·exact .inr (.inl z)
    ·exact .inr (.inr z)
   obtain ⟨u,ru,lk⟩:=hl0 j y v q1 e2'' hv
   refine ⟨u,ru,.inr ⟨aH9 q3,?_⟩⟩
   rcases lk with ⟨lk,_⟩ | ⟨_,c,hc,hcell⟩
   ·rcases S.free _ (S3 q3) rfl with z | z
    ·have : X.env.scope.names.lookup y = some .local:=lk
     rw [z] at this; cases this
    ·have : X.env.scope.names.lookup y = some .local:=lk
     rw [z] at this; cases this
   ·obtain ⟨c',hc'⟩:=cl_has y (S3 q3)
    have:=cl_of y c' hc'
    rw [hc] at this; cases this
    obtain ⟨o,ho,hd⟩:=hcell
    exact ⟨c,hc',o,hk c o ho,hd⟩
 ·obtain ⟨v,o,ho,hd⟩:=I.cell x c (cl_of x c e)
  exact ⟨v,o,hk c o ho,hd⟩
 ·show (aC5 n caps σ).length = N'.length
  unfold aC5
  rw [S.len]; simp
theorem aF4 {pins : List (Addr × Obj)} {σ σ' : L2.St} {H H' : Hp} {s s' : Shared} {h' : Heap} {fp : List Addr} (I : Inv X pins σ H s) (hf : ∀ b ∈ fp,n9 X pins H b)
  (I' : Inv (G4 X N' scope s.heap.objs.size s H fp) [] σ' H' s') (sb : Heap.SameBut s.heap.objs.size s'.heap h') : Inv X pins σ H' { s' with heap:=h' }:=by
 have ne : ∀ b o,s.heap.get? b = some o → b ≠ s.heap.objs.size:=fun b o e=>Nat.ne_of_lt (Heap.lt_size e)
 refine I.call' (s':={ s' with heap:=h' }) (ch:=fp) I'.os ?_ ?_ I'.bare fun b hb=>⟨(hf b hb).2.2.2.1,(hf b hb).2.1,(hf b hb).2.2.2.2.1,(hf b hb).2.2.2.2.2⟩
 ·refine ⟨fun b o e n hb hx=>sb.extBut b o (ne b o e) (I'.base.keep b o e n hb hx),fun b o e n hb hx=>?_,I'.base.free,fun b o e hx=>?_,I'.base.tups,I'.base.frzs,I'.base.tbls⟩
  ·obtain ⟨sl,q⟩:=I'.base.slot b o e n hb hx
   exact ⟨sl,sb.extBut b _ (ne b o e) q⟩
  ·obtain ⟨o',q⟩:=I'.base.there b o e hx
   exact ⟨o',sb.extBut b _ (ne b o e) q⟩
 ·intro b u e
  have nC : ∀ c v,H' c = some v → c ≠ s.heap.objs.size:=fun c v q z=>by
   have:=I'.free
   have z' : H' c = none:=by rw [z]; exact this
   rw [z'] at q; cases q
  refine (I'.hok b u e).stay (fun c v hc q=>sb.extBut c v ?_ q) (fun _ q=>q) fun _ _ q=>q
  rcases hc with z | z
  ·rw [z]; exact nC b u e
  ·exact nC c _ z
noncomputable def PTs (X : Cx) (ifs : List Expr) (t : TT) : Prop :=
 ∀ (pins : List (Addr × Obj)) (s : Shared) (σ : L2.St) (H : Hp) (Q : Bool → Hp → Prop),Inv X pins σ H s → t σ H Q →
  wpAny (model X.prog X.w) X.A (forIn ifs true fun c r=>if r = true then do let ok ← isTrue c X.env (eval c X.env); pure (ForInStep.yield ok) else pure (ForInStep.yield r)) (TP X pins σ Q) X.xe s
theorem bI0 : PTs X [] (fun _ H Q=>Q true H):=fun pins s σ H Q I h=>wpAny_tests_nil ⟨H,I,h⟩
theorem bH9 {c : Expr} {t : TT} (h : PT X c t) : PTs X [c] t:=fun pins s σ H Q I q=>wpAny_tests_one (h pins s σ H Q I q)
noncomputable def bt7 (n : Nat) (caps : List Nat) (wi : TI) (g : TG) (tc : TT) (te : TE) : TE:=fun σ H Q=>wi σ H fun J H1=>∀ Dd,H1 Dd = none → ∃ W : Nat → Nat → List V → L2.St → Hp → Prop,
 (∃ m,W 0 m [] (aC5 n caps σ) (upd H1 Dd (.lst []))) ∧
 ∀ i m ys σ' H',W i m ys σ' H' →
  (J.stop i H' ∧ Q (.ref Dd) H') ∨
  (J.go i H' ∧ ∀ x H2,J.yld i H' x H2 → g x σ' H2 fun σ3 H3=>tc σ3 H3 fun b H4 =>
   if b = true then te σ3 H4 fun y H5=>H5 Dd = some (.lst ys) ∧ ys.length < sizeLine ∧ ∃ m',m' < m ∧ W (i + 1) m' (ys ++ [y]) σ3 (upd H5 Dd (.lst (ys ++ [y])))
   else ∃ m',m' < m ∧ W (i + 1) m' ys σ3 H4)
theorem aT6 {elt tgt iter : Expr} {ifs : List Expr} {pos : Pos} {wi : TI} {g : TG} {tc : TT} {te : TE} {RR : Value → Addr → Result → Shared → Prop} {E : Value → Shared → Prop} (S : CompSc X N' n caps scope) (hx : ∀ e s,X.xe e s → False) (hc : X.calm = true)
  (hi : PI X tgt iter wi) (hg : ∀ C s0 H0 ex,PG (G4 X N' scope C s0 H0 ex) tgt g) (ht : ∀ C s0 H0 ex,PTs (G4 X N' scope C s0 H0 ex) ifs tc) (he : ∀ C s0 H0 ex,PE (G4 X N' scope C s0 H0 ex) elt te)
  {pins : List (Addr × Obj)} {s : Shared} {σ : L2.St} {H : Hp} {Q : VK} (I : Inv X pins σ H s) (h : bt7 n caps wi g tc te σ H Q)
  (hRR : ∀ D C r s',r = .ok .next → (∃ m,s'.heap.Ns C m ∧ ∀ h',Heap.SameBut C s'.heap h' → ∃ H',Inv X pins σ H' { s' with heap:=h' } ∧ Q (.ref D) H') →
   (∃ s2 fp σ' H2 H',s2.heap.objs.size = C ∧ Inv X pins σ H2 s2 ∧ (∀ b ∈ fp,n9 X pins H2 b) ∧ Inv (G4 X N' scope s2.heap.objs.size s2 H2 fp) [] σ' H' s' ∧ Q (.ref D) H') → RR (.ref D) C r s') :
  wpAny (model X.prog X.w) X.A (eval iter X.env) (fun x s₁=>wpAny (model X.prog X.w) X.A (pyIter x) (fun it s₂=>wpAny (model X.prog X.w) X.A (newList []) (fun acc s₃ =>
   wpAny (model X.prog X.w) X.A (newFunctionEnv scope X.env.globals (R1 X.env.cells scope.names []) [] X.env.qual none .none (some X.env)) (fun cenv s₄ =>
    codeAny (model X.prog X.w) X.A (.compStart (.ListComp elt [⟨tgt,iter,ifs,0⟩] scope pos) 0 it acc { cenv with scope:=relabel scope X.env }) (RR acc cenv.locals) s₄) E s₃) E s₂) E s₁) E s:=by
 refine wpAny_mono (hi pins s σ H _ I h) (fun v s1 h1=>wpAny_mono h1 (fun itv s2 h2=>?_) fun _ _ z=>(hx _ _ z).elim) fun _ _ z=>(hx _ _ z).elim
 obtain ⟨it,fp,tn,J,H2,e,I2,T,st2,f2,R⟩:=h2
 subst e
 refine wpAny_newObj_type (wpAny_newFunctionEnv S.cell (by intro y hy; simp at hy) (fun h₁ hns₁ hsb₁=>?_) S.kind)
 dsimp only at hns₁ hsb₁ ⊢
 obtain ⟨W,⟨m0,w0⟩,turn⟩:=R s2.heap.objs.size (I2.hok.fresh (Nat.le_refl _))
 have lt2 : ∀ b ∈ fp,b < s2.heap.objs.size:=fun b hb=>by
  obtain ⟨o,ho,_⟩:=T.obj _ _ st2 b hb
  exact Heap.lt_size ho
 have I3 : Inv X pins σ (upd H2 s2.heap.objs.size (.lst [])) { s2 with heap:=s2.heap.push { cls:=.type "list", dict:=none,data:=.seq ([] : List Value).toArray } } :=
  I2.laid (t':=s2.toks) (fun b u e=>Heap.get?_push_of_some _ e) (Nat.le_refl _) ⟨Nat.zero_le _,[],0,.nil,Heap.get?_push_size _ rfl⟩
 generalize hs3 : ({ s2 with heap:=s2.heap.push { cls:=.type "list", dict:=none,data:=.seq ([] : List Value).toArray } } : Shared) = s3 at I3
 have es3 : s3.heap = s2.heap.push { cls:=.type "list", dict:=none,data:=.seq ([] : List Value).toArray }:=by rw [← hs3]
 rw [← es3] at hns₁ hsb₁ ⊢
 have keep3 : ∀ b o,s3.heap.get? b = some o → h₁.get? b = some o:=fun b o e=>hsb₁.extBut b o (Nat.ne_of_lt (Heap.lt_size e)) (Heap.get?_push_of_some _ e)
 have lt3 : ∀ b ∈ fp,b < s3.heap.objs.size:=fun b hb=>by rw [es3,Heap.size_push]; exact Nat.lt_succ_of_lt (lt2 b hb)
 have f3 : ∀ b ∈ fp,n9 X pins (upd H2 s2.heap.objs.size (.lst [])) b:=fun b hb=>⟨by rw [D7 (Nat.ne_of_lt (lt2 b hb))]; exact (f2 b hb).1,(f2 b hb).2⟩
 generalize hH3 : upd H2 s2.heap.objs.size (HO.lst []) = H3 at I3 f3 w0
 have fin3 : ∀ {σ' : L2.St} {H' : Hp} {pl : List (Addr × Obj)},(∀ b ∈ fp,H' b = none) → (∀ p ∈ pl,False) → ∀ b ∈ fp,n9 (G4 X N' scope s3.heap.objs.size s3 H3 fp) pl H' b:=fun {σ' H' pl} hn hp b hb=>by
  refine ⟨hn b hb,Nat.ne_of_lt (lt3 b hb),fun z=>?_,.inl hb,fun x c e=>?_,fun p hp'=>?_⟩
  ·rcases List.mem_cons.mp (I3.stkSub b z) with z | z
   ·exact (f3 b hb).2.1 z
   ·exact (f3 b hb).2.2.1 z
  ·have hm:=PySem.mem_of_lookup e
   rcases ap1 hm with q | ⟨q1,q2⟩
   ·cases q
   ·obtain ⟨c',hc'⟩:=I3.ok.has x (S.free _ q1 rfl)
    rw [hc'] at q2
    have q2' : c = c':=q2
    subst q2'
    exact (f3 b hb).2.2.2.2.1 x c hc'
  ·exact (hp p (by simpa [G4] using hp')).elim
 have toks : ∃ tk,({ s2 with heap:=h₁,toks:=s2.toks + ([] : List (Str × Value)).length } : Shared) = { s3 with heap:=h₁,toks:=tk }:=⟨s2.toks,by rw [← hs3]; rfl⟩
 obtain ⟨tk,htk⟩:=toks
 have st4 : tn 0 h₁:=T.keep 0 s2.heap h₁ st2 fun b hb o e=>keep3 b o (by rw [es3]; exact Heap.get?_push_of_some _ e)
 have I4 : Inv (G4 X N' scope s3.heap.objs.size s3 H3 fp) [] (aC5 n caps σ) H3 { s3 with heap:=h₁,toks:=tk }:=ba9 S I3 f3 lt3 hns₁ keep3
 have loop : codeAny (model X.prog X.w) X.A (.compLoop (.ListComp elt [⟨tgt,iter,ifs,0⟩] scope pos) 0 (.ref it) (.ref s2.heap.objs.size) (compEnvC scope (R1 X.env.cells scope.names []) s3.heap.objs.size X.env)) (RR (.ref s2.heap.objs.size) s3.heap.objs.size) { s3 with heap:=h₁,toks:=tk }:=by
  refine bp7 (fun k s'=>∃ i ys σ' H',Inv (G4 X N' scope s3.heap.objs.size s3 H3 fp) [] σ' H' s' ∧ tn i s'.heap ∧ (∀ b ∈ fp,H' b = none) ∧ W i k ys σ' H') ?_ m0 ⟨0,[],_,H3,I4,st4,fun b hb=>(f3 b hb).1,w0⟩
  rintro k s5 ⟨i,ys,σ5,H5,I5,st5,fr5,w5⟩
  have pz : ∀ p ∈ ([] : List (Addr × Obj)),False:=fun p hp=>by cases hp
  rcases turn i k ys σ5 H5 w5 with ⟨stop,qn⟩ | ⟨go,step⟩
  ·refine wpAny_mono (T.done (G4 X N' scope s3.heap.objs.size s3 H3 fp) rfl rfl rfl hc i [] s5 σ5 H5 (fun _ _=>False) I5 (fin3 (σ':=σ5) fr5 pz) st5 stop) (fun r s6 ⟨hr,I6⟩=>?_) fun _ _ z=>z
   subst hr
   obtain ⟨m6,hn6,_⟩:=I6.loc
   refine hRR _ _ _ s6 rfl ⟨m6,hn6,fun h' sb=>⟨H5,aF4 I3 f3 I6 sb,qn⟩⟩ ⟨s3,fp,σ5,H3,H5,rfl,I3,f3,I6,qn⟩
  ·refine wpAny_mono (T.item (G4 X N' scope s3.heap.objs.size s3 H3 fp) rfl rfl rfl hc i [] s5 σ5 H5 (fun _ _=>False) I5 (fin3 (σ':=σ5) fr5 pz) st5 go) (fun r s6 ⟨u,hr,h6⟩=>?_) fun _ _ z=>z
   subst hr
   refine wpAny_mono h6 (fun _ s7 ⟨x,H7,I7,r7,y7,st7,fr7⟩=>?_) fun _ _ z=>z
   have I7':=I7.pinned (fin3 (σ':=σ5) fr7 pz) (T.obj _ _ st7)
   refine wpAny_mono (hg _ _ _ _ _ s7 σ5 H7 x u _ I7' r7 (step x H7 y7)) (fun _ s8 ⟨σ8,H8,I8,q8⟩=>?_) fun _ _ z=>z
   refine wpAny_mono (ht _ _ _ _ _ s8 σ8 H8 _ I8 q8) (fun ok s9 ⟨H9,I9,q9⟩=>?_) fun _ _ z=>z
   have again : ∀ {σ' : L2.St} {H' : Hp} {s' : Shared},Inv (G4 X N' scope s3.heap.objs.size s3 H3 fp) ([] ++ ay0 fp s7.heap) σ' H' s' → Inv (G4 X N' scope s3.heap.objs.size s3 H3 fp) [] σ' H' s' ∧ tn (i + 1) s'.heap ∧ ∀ b ∈ fp,H' b = none:=fun {σ' H' s'} I'=>by
    refine ⟨I'.unpinned,T.keep _ _ _ st7 fun b hb o e=>(I'.pin (b,o) (List.mem_append_right _ (List.mem_append_right _ (aa1 hb e)))).1,fun b hb=>?_⟩
    obtain ⟨o,e,d⟩:=T.obj _ _ st7 b hb
    exact (I'.pin (b,o) (List.mem_append_right _ (List.mem_append_right _ (aa1 hb e)))).2.1
   cases ok with
   | false =>
    rw [if_neg Bool.false_ne_true] at q9 ⊢
    obtain ⟨m',hm,w'⟩:=q9
    obtain ⟨a1,a2,a3⟩:=again I9
    exact ⟨m',hm,i + 1,ys,σ8,H9,a1,a2,a3,w'⟩
   | true =>
    rw [if_pos rfl] at q9 ⊢
    refine wpAny_mono (he _ _ _ _ _ s9 σ8 H9 _ I9 q9) (fun y s10 ⟨vy,H10,I10,r10,q10,z10,m',hm,w'⟩=>?_) fun _ _ z=>z
    refine wpAny_mono (aE1 (X:=G4 X N' scope s3.heap.objs.size s3 H3 fp) _ s10 σ8 H10 (.ref s2.heap.objs.size) [vy] _ _ (fun v H'=>v = .non ∧ H' = upd H10 s2.heap.objs.size (.lst (ys ++ [vy]))) I10 rfl (.cons r10 .nil) ⟨_,ys,vy,rfl,rfl,q10,z10,rfl,rfl⟩) (fun _ s11 ⟨v11,H11,I11,r11,e11,e12⟩=>?_) fun _ _ z=>z
    subst e12
    obtain ⟨a1,a2,a3⟩:=again I11
    exact ⟨m',hm,i + 1,ys ++ [vy],σ8,_,a1,a2,a3,w'⟩
 show codeAny (model X.prog X.w) X.A _ _ ({ s2 with heap:=h₁,toks:=s2.toks + ([] : List (Str × Value)).length } : Shared)
 rw [htk]
 exact codeAny_compStart_list loop (T.self _ _ _ _ _ st4 loop)
end
end G
namespace G
open PySem PySem.Spec PyProof.Rows L2
section
variable {X : Cx}
noncomputable def tgJ (K : PySem.W.Frag) (f : D → Rho → Option Rho) : TG:=fun v σ H Q=>∃ d ρ ρ' H0 Hf,f d ρ = some ρ' ∧ F9 Hf H ∧ Slots K H0 ρ σ H Hf ∧ Rep K Hf d v ∧ ∀ σ',Slots K H0 ρ' σ' H Hf → Q σ' H
noncomputable def JG (X : Cx) (tg : Expr) (f : D → Rho → Option Rho) : Prop:=PG X tg (tgJ X.K f)
noncomputable def cu6 (K : PySem.W.Frag) (f : List D → Rho → Option Rho) : TGs:=fun vs σ H Q=>∃ ds ρ ρ' H0 Hf,f ds ρ = some ρ' ∧ F9 Hf H ∧ Slots K H0 ρ σ H Hf ∧ Reps K Hf ds vs ∧ ∀ σ',Slots K H0 ρ' σ' H Hf → Q σ' H
noncomputable def JGs (X : Cx) (tg : List Expr) (f : List D → Rho → Option Rho) : Prop:=PGs X tg (cu6 X.K f)
noncomputable def C9 (i : Nat) : D → Rho → Option Rho:=fun d ρ=>some (ρ.set i (some (.val d)))
theorem bN8 (i : Nat) {x : Str} {pos : Pos} (hN : X.N.Nodup) (hi : X.N[i]? = some x:=by rfl) (hx : Loc X.env.scope x:=by first | exact Or.inl rfl | exact Or.inr rfl) (hf : X.fn x = true ∨ X.env.scope.names.lookup x = some .local:=by first | exact .inl rfl | exact .inr rfl) : JG X (.Name x pos) (C9 i):=by
 intro pins s σ H v u Q I r ⟨d,ρ,ρ',H0,Hf,e,ss,sl,rp,k⟩
 cases e
 exact bI9 hN hi hx hf pins s σ H v u Q I r (k _ (sl.set rp))
noncomputable def S6 : List D → Rho → Option Rho:=fun ds ρ=>match ds with
 | []=>some ρ
 | _=>none
noncomputable def K1 (f : D → Rho → Option Rho) (g : List D → Rho → Option Rho) : List D → Rho → Option Rho:=fun ds ρ=>match ds with
 | d :: r=>(f d ρ).bind fun ρ'=>g r ρ'
 | []=>none
theorem bN7 : JGs X [] S6:=by
 intro pins s σ H vs us Q I r ⟨ds,ρ,ρ',H0,Hf,e,ss,sl,rp,k⟩
 cases ds with
 | nil=>cases e; exact bI8 pins s σ H vs us Q I r ⟨rp,k _ sl⟩
 | cons d ds=>cases e
theorem bA6 {e : Expr} {es : List Expr} {f : D → Rho → Option Rho} {g : List D → Rho → Option Rho} (h1 : JG X e f) (h2 : JGs X es g) (hs : (assignEach (e :: es) X.env).map (·.2) = assign e X.env :: (assignEach es X.env).map (·.2):=by rfl) : JGs X (e :: es) (K1 f g):=by
 intro pins s σ H vs us Q I r ⟨ds,ρ,ρ',H0,Hf,e,ss,sl,rp,k⟩
 cases ds with
 | nil=>cases e
 | cons d ds =>
  obtain ⟨ρ1,e1,e2⟩:=xbm e
  obtain ⟨v,vr,rfl,q1,q2⟩:=rp
  exact bw3 h1 h2 hs pins s σ H _ us Q I r ⟨v,vr,rfl,d,ρ,ρ1,H0,Hf,e1,ss,sl,q1,fun σ' sl'=>⟨ds,ρ1,ρ',H0,Hf,e2,ss,sl',q2,k⟩⟩
noncomputable def R6 (n : Nat) (g : List D → Rho → Option Rho) : D → Rho → Option Rho:=fun d ρ=>match d with
 | .tuple ds=>if ds.length = n then g ds ρ else none
 | _=>none
theorem ch5 {es : List Expr} {k n : Nat} {pos : Pos} {g : List D → Rho → Option Rho} (h : JGs X es g) (hc : X.calm = true:=by rfl) (hn : (assignEach es X.env).length = n:=by rfl) (hst : (assignEach es X.env).findIdx? (·.1) = none:=by rfl) : JG X (.Tuple es k pos) (R6 n g):=by
 intro pins s σ H v u Q I r ⟨d,ρ,ρ',H0,Hf,e,ss,sl,rp,kk⟩
 cases d with
 | tuple ds =>
  simp only [R6] at e
  split at e
  ·rename_i hl
   obtain ⟨a,vs,rfl,q1,q2⟩:=rp
   exact cb3 hc h hn hst pins s σ H _ u Q I r ⟨a,vs,rfl,E2 ss q1,by rw [q2.length,hl],ds,ρ,ρ',H0,Hf,e,ss,sl,q2,kk⟩
  ·cases e
 | _=>cases e
noncomputable def aM6 (K : PySem.W.Frag) (J : It) (ds : List D) (Hf1 : Hp) : Prop:=∀ (i : Nat) (H Hf : Hp),F9 Hf1 Hf → F9 Hf H → (ds.length ≤ i → J.stop i H) ∧ ∀ d,ds[i]? = some d → J.go i H ∧ ∀ x H',J.yld i H x H' → ∃ Hf',Grow H Hf H' Hf' ∧ Rep K Hf' d x
noncomputable def tiJ (K : PySem.W.Frag) (ρ : Rho) (ds : List D) : TI:=fun σ H R=>∃ H0 Hf,F9 Hf H ∧ Slots K H0 ρ σ H Hf ∧ ∀ J H' Hf',Grow H Hf H' Hf' → aM6 K J ds Hf' → R J H'
noncomputable def JI (X : Cx) (tg iter : Expr) (f : Rho → Option (List D)) : Prop:=∀ ρ ds,f ρ = some ds → PI X tg iter (tiJ X.K ρ ds)
theorem aI4 {tg iter : Expr} {t t' : TI} (h : PI X tg iter t) (i : ∀ σ H R,t' σ H R → t σ H R) : PI X tg iter t':=fun pins s σ H R I q=>h pins s σ H R I (i σ H R q)
noncomputable def F0 (f : DE) : Rho → Option (List D):=fun ρ=>(f ρ).bind fun d=>match d with
 | .list ds=>some ds
 | .tuple ds=>some ds
 | _=>none
theorem aY9 {tg e : Expr} {f : DE} (h : JE X e f) : JI X tg e (F0 f):=fun ρ ds q=>by
 obtain ⟨d,e1,e2⟩:=xbm q
 cases d with
 | list xs =>
  cases e2
  refine aI4 (bI7 (h ρ _ e1)) fun σ H R ⟨H0,Hf,s,sl,k⟩=>⟨H0,Hf,s,sl,fun v H1 Hf1 g1 ⟨a,vs,h1,h2,h3⟩=>⟨a,h1,⟨vs,G2 g1.sub h2⟩,k _ H1 Hf1 g1 ?_⟩⟩
  intro i H' Hf' sa sb
  have q' : SqL X.K H' a vs:=G2 (sa.trans sb) h2
  refine ⟨fun hi=>⟨vs,q',by rw [h3.length]; exact hi⟩,fun d hd=>?_⟩
  obtain ⟨v,w1,w2⟩:=h3.get hd
  refine ⟨⟨vs,v,q',w1⟩,fun x H'' hy=>?_⟩
  obtain ⟨rfl,hy⟩:=hy
  have:=hy vs q'
  rw [w1] at this; cases this
  exact ⟨Hf',Grow.refl sb,w2.mono sa⟩
 | tuple xs =>
  cases e2
  refine aI4 (cb2 (h ρ _ e1)) fun σ H R ⟨H0,Hf,s,sl,k⟩=>⟨H0,Hf,s,sl,fun v H1 Hf1 g1 ⟨a,vs,h1,h2,h3⟩=>⟨a,h1,⟨vs,E2 g1.sub h2⟩,k _ H1 Hf1 g1 ?_⟩⟩
  intro i H' Hf' sa sb
  have q' : SqT X.K H' a vs:=E2 (sa.trans sb) h2
  refine ⟨fun hi=>⟨vs,q',by rw [h3.length]; exact hi⟩,fun d hd=>?_⟩
  obtain ⟨v,w1,w2⟩:=h3.get hd
  refine ⟨⟨vs,v,q',w1⟩,fun x H'' hy=>?_⟩
  obtain ⟨rfl,hy⟩:=hy
  have:=hy vs q'
  rw [w1] at this; cases this
  exact ⟨Hf',Grow.refl sb,w2.mono sa⟩
 | _=>cases e2
noncomputable def m9 (lo hi : Int) : List D:=(List.range (hi - lo).toNat).map fun (i : Nat)=>PyData.int (lo + i)
theorem am6 {K : PySem.W.Frag} {lo hi : Int} {Hf1 : Hp} : aM6 K (Itr lo (hi - lo).toNat) (m9 lo hi) Hf1:=by
 intro i H Hf sa sb
 have hl : (m9 lo hi).length = (hi - lo).toNat:=by simp [m9]
 refine ⟨fun h=>by rw [hl] at h; exact h,fun d hd=>?_⟩
 have hi' : i < (hi - lo).toNat:=by
  have:=(List.getElem?_eq_some_iff.mp hd).1
  rw [hl] at this; exact this
 refine ⟨hi',fun x H' hy=>?_⟩
 obtain ⟨e1,e2⟩:=hy
 subst e1 e2
 have : d = .int (lo + i):=by
  have : (m9 lo hi)[i]? = some (.int (lo + i)):=by simp [m9,hi']
  rw [hd] at this; cases this; rfl
 subst this
 exact ⟨Hf,Grow.refl sb,rfl⟩
noncomputable def K0 (f : DE) : Rho → Option (List D):=fun ρ=>(f ρ).bind fun d=>match d with
 | .int j=>if -(2 ^ 62) ≤ j ∧ j < 2 ^ 62 then some (m9 0 j) else none
 | _=>none
theorem bn2 {tg e : Expr} {f : DE} {p pos : Pos} (hg : Gl X "range") (hm : X.mg "range" = none) (h : JE X e f) (hs : starEach [e] X.env = [(false,eval e X.env)]:=by rfl) : JI X tg (.Call (.Name "range" p) [e] [] pos) (K0 f):=fun ρ ds q=>by
 obtain ⟨d,e1,e2⟩:=xbm q
 split at e2
 ·split at e2
  ·rename_i j c
   cases e2
   refine aI4 (bk3 hg hm (E6 (h ρ _ e1) J7 hs) hs) fun σ H R ⟨H0,Hf,s,sl,k⟩=>⟨H0,Hf,s,sl,fun v H1 Hf1 g1 r=>⟨j,by rw [show v = _ from r],c.1,c.2,k _ H1 Hf1 g1 ?_⟩⟩
   have:=am6 (K:=X.K) (lo:=0) (hi:=j) (Hf1:=Hf1)
   rw [Int.sub_zero] at this
   exact this
  ·cases e2
 ·cases e2
noncomputable def bT0 (f g : DE) : Rho → Option (List D):=fun ρ=>(f ρ).bind fun d=>(g ρ).bind fun e=>match d,e with
 | .int i,.int j=>if (-(2 ^ 62) ≤ i ∧ i < 2 ^ 62) ∧ -(2 ^ 62) ≤ j ∧ j < 2 ^ 62 then some (m9 i j) else none
 | _,_=>none
theorem bn1 {tg a b : Expr} {f g : DE} {p pos : Pos} (hg : Gl X "range") (hm : X.mg "range" = none) (ha : JE X a f) (hb : JE X b g) (hs : starEach [a,b] X.env = [(false,eval a X.env),(false,eval b X.env)]:=by rfl) (hs2 : starEach [b] X.env = [(false,eval b X.env)]:=by rfl) :
  JI X tg (.Call (.Name "range" p) [a,b] [] pos) (bT0 f g):=fun ρ ds q=>by
 obtain ⟨d,e1,q⟩:=xbm q
 obtain ⟨e,e2,q⟩:=xbm q
 split at q
 ·split at q
  ·rename_i c
   cases q
   refine aI4 (bk2 hg hm (E6 (ha ρ _ e1) (E6 (hb ρ _ e2) J7 hs2) (by rw [hs,hs2])) hs hs2) fun σ H R ⟨H0,Hf,s,sl,k⟩=>⟨H0,Hf,s,sl,fun v H1 Hf1 g1 r=>⟨H0,Hf1,g1.sub,sl.grow g1,fun u H2 Hf2 g2 r2=>⟨_,_,by rw [show v = _ from r,show u = _ from r2],⟨c.1.1,c.1.2,c.2.1,c.2.2⟩,k _ H2 Hf2 (g1.trans g2) am6⟩⟩⟩
  ·cases q
 ·cases q
theorem Grow.nofr {H Hf H' Hf' : Hp} {a : Addr} {o : HO} (g : Grow H Hf H' Hf') (h : H a = some o) (n : Hf a = none) : Hf' a = none:=by
 cases q : Hf' a with
 | none=>rfl
 | some u =>
  rcases g.new a (by rw [q]; simp) with z | z
  ·exact absurd n z
  ·rw [h] at z; cases z
noncomputable def n8 (n : Nat) (caps : List Nat) (ρ : Rho) : Rho:=List.replicate n none ++ caps.map fun j=>match ρ[j]? with
 | some (some (.val d))=>some (.val d)
 | _=>none
noncomputable def S7 (g : D → Rho → Option Rho) (c : Rho → Option Bool) (e : DE) : List D → Rho → Option (List D)
 | [],_=>some []
 | d :: ds,ρ=>(g d ρ).bind fun ρ1=>(c ρ1).bind fun b=>if b then (e ρ1).bind fun y=>(S7 g c e ds ρ1).map fun r=>y :: r else S7 g c e ds ρ1
noncomputable def D2 (n : Nat) (caps : List Nat) (src : Rho → Option (List D)) (g : D → Rho → Option Rho) (c : Rho → Option Bool) (e : DE) : Rho → Option (List D):=fun ρ=>(src ρ).bind fun ds=>if ds.length ≤ 16777216 then S7 g c e ds (n8 n caps ρ) else none
noncomputable def aD2 (K : PySem.W.Frag) (c : Rho → Option Bool) : TT:=fun σ H Q=>∃ ρ b,c ρ = some b ∧ ∃ H0 Hf,F9 Hf H ∧ Slots K H0 ρ σ H Hf ∧ ∀ H' Hf',Grow H Hf H' Hf' → Q b H'
noncomputable def bd3 (K : PySem.W.Frag) (e : DE) : TE:=fun σ H Q=>∃ ρ d,e ρ = some d ∧ tJ K ρ (fun _ v _ Hf=>Rep K Hf d v) σ H Q
noncomputable def JTs (X : Cx) (ifs : List Expr) (c : Rho → Option Bool) : Prop:=PTs X ifs (aD2 X.K c)
noncomputable def F7 : Rho → Option Bool:=fun _=>some true
theorem bM3 : JTs X [] F7:=fun pins s σ H Q I ⟨ρ,b,e,H0,Hf,ss,sl,k⟩=>by
 cases e
 exact bI0 pins s σ H Q I (k H Hf (Grow.refl ss))
theorem bM2 {e : Expr} {c : Rho → Option Bool} (h : JT X e c) : JTs X [e] c:=fun pins s σ H Q I ⟨ρ,b,e,H0,Hf,ss,sl,k⟩=>bH9 (h ρ b e) pins s σ H Q I ⟨H0,Hf,ss,sl,k⟩
theorem bb1 {K : PySem.W.Frag} {n : Nat} {caps : List Nat} {H0 H H1 H' Hf : Hp} {ρ : Rho} {σ : L2.St} (sl : Slots K H0 ρ σ H Hf) : Slots K H1 (n8 n caps ρ) (aC5 n caps σ) H' Hf:=by
 have noown : ∀ (i : Nat) (ds : List D),(n8 n caps ρ)[i]? ≠ some (some (.own ds)):=fun i ds h=>by
  unfold n8 at h
  rcases Nat.lt_or_ge i n with q | q
  ·rw [List.getElem?_append_left (by simpa using q),List.getElem?_replicate,if_pos q] at h; cases h
  ·rw [List.getElem?_append_right (by simpa using q),List.getElem?_map] at h
   cases hj : caps[i - (List.replicate n (none : Option B)).length]? with
   | none=>rw [hj] at h; cases h
   | some j =>
    rw [hj] at h
    simp only [Option.map_some,Option.some.injEq] at h
    split at h <;> cases h
 refine ⟨by simp [n8,aC5],fun i b e=>?_,fun i j ds es a h1=>(noown i ds h1).elim⟩
 unfold n8 at e
 unfold aC5
 rcases Nat.lt_or_ge i n with q | q
 ·rw [List.getElem?_append_left (by simpa using q),List.getElem?_replicate,if_pos q] at e; cases e
 ·rw [List.getElem?_append_right (by simpa using q),List.getElem?_map] at e
  rw [List.getElem?_append_right (by simpa using q),List.getElem?_map]
  simp only [List.length_replicate] at e ⊢
  cases hj : caps[i - n]? with
  | none=>rw [hj] at e; cases e
  | some j =>
   rw [hj] at e
   simp only [Option.map_some,Option.some.injEq] at e ⊢
   split at e
   ·rename_i d hd
    cases e
    obtain ⟨v,h1,h2⟩:=sl.is j _ hd
    exact ⟨v,by rw [h1]; rfl,h2⟩
   ·cases e
theorem al7 {K : PySem.W.Frag} {n : Nat} {caps : List Nat} {ρ : Rho} {src : Rho → Option (List D)} {g : D → Rho → Option Rho} {c : Rho → Option Bool} {e : DE} {out : List D} (h : D2 n caps src g c e ρ = some out) :
  ∃ ds,src ρ = some ds ∧ ∀ σ H Q,tJ K ρ (fun H v H' Hf'=>∃ a vs,v = .ref a ∧ H a = none ∧ H' a = some (.lst vs) ∧ Hf' a = none ∧ Reps K Hf' out vs) σ H Q → bt7 n caps (tiJ K ρ ds) (tgJ K g) (aD2 K c) (bd3 K e) σ H Q:=by
 obtain ⟨ds,e1,e2⟩:=xbm h
 split at e2
 ·rename_i hz
  refine ⟨ds,e1,fun σ H Q ⟨H0,Hf,s,sl,k⟩=>⟨H0,Hf,s,sl,fun J H1 Hf1 g1 Y Dd hD=>?_⟩⟩
  refine ⟨fun i m ys σ' H'=>m = ds.length - i ∧ i ≤ ds.length ∧ ∃ Hf' ρ' o1 o2,Grow H1 Hf1 H' Hf' ∧ H' Dd = some (.lst ys) ∧ Hf' Dd = none ∧ Slots K (upd H1 Dd (.lst [])) ρ' σ' H' Hf' ∧ Reps K Hf' o1 ys ∧ o1.length ≤ i ∧ S7 g c e (ds.drop i) ρ' = some o2 ∧ o1 ++ o2 = out,
   ⟨ds.length,by simp,Nat.zero_le _,Hf1,n8 n caps ρ,[],out,Grow.made g1.sub hD,D6,g1.sub.free hD,bb1 (sl.grow g1),rfl,Nat.le_refl _,by simpa using e2,rfl⟩,?_⟩
  rintro i m ys σ' H' ⟨rfl,hi,Hf',ρ',o1,o2,gr,hd1,hd2,sl',rp,ho,ec,eo⟩
  obtain ⟨Ys,Yg⟩:=Y i H' Hf' gr.ext gr.sub
  rcases Nat.lt_or_ge i ds.length with hlt | hge
  ·right
   obtain ⟨go,yl⟩:=Yg ds[i] (by simp [hlt])
   refine ⟨go,fun x H2 hy=>?_⟩
   obtain ⟨Hf2,g2,r2⟩:=yl x H2 hy
   rw [List.drop_eq_getElem_cons hlt] at ec
   obtain ⟨ρ1,c1,ec⟩:=xbm ec
   obtain ⟨b,c2,ec⟩:=xbm ec
   refine ⟨ds[i],ρ',ρ1,_,Hf2,c1,g2.sub,sl'.grow g2,r2,fun σ3 sl3=>⟨ρ1,b,c2,_,Hf2,g2.sub,sl3,fun H4 Hf4 g4=>?_⟩⟩
   have gr4:=(gr.trans g2).trans g4
   have hd4 : H4 Dd = some (.lst ys):=g4.big _ _ (g2.big _ _ hd1)
   have hf4 : Hf4 Dd = none:=(g2.trans g4).nofr hd1 hd2
   have rp4:=rp.mono (g2.trans g4).ext
   cases b with
   | false =>
    rw [if_neg Bool.false_ne_true] at ec
    refine aC1 ?_
    exact ⟨ds.length - (i + 1),by omega,rfl,hlt,Hf4,ρ1,o1,o2,gr4,hd4,hf4,sl3.grow g4,rp4,by omega,ec,eo⟩
   | true =>
    rw [if_pos rfl] at ec
    refine aC0 ?_
    obtain ⟨y,c3,ec⟩:=xbm ec
    obtain ⟨o3,c4,rfl⟩:=Option.map_eq_some_iff.mp ec
    refine ⟨ρ1,y,c3,_,Hf4,g4.sub,sl3.grow g4,fun v H5 Hf5 g5 r5=>⟨g5.big _ _ hd4,?_,?_⟩⟩
    ·rw [rp.length,sizeLine_eq]; omega
    ·have hf5 : Hf5 Dd = none:=g5.nofr hd4 hf4
     have gr5:=gr4.trans g5
     refine ⟨ds.length - (i + 1),by omega,rfl,hlt,Hf5,ρ1,o1 ++ [y],o3,⟨fun b u q=>?_,fun b u q=>?_,gr5.ext,gr5.new⟩,D6,hf5,?_,(rp4.mono g5.ext).append ⟨v,[],rfl,r5,rfl⟩,by simp; omega,c4,by simp [← eo]⟩
     ·rw [D7 (D8 q hD)]; exact gr5.big b u q
     ·rw [D7 (D8 q hf5)]; exact gr5.sub b u q
     ·have sl5:=(sl3.grow g4).grow g5
      refine ⟨sl5.len,fun j bb q=>?_,sl5.apart⟩
      obtain ⟨w,q1,q2⟩:=sl5.is j bb q
      refine ⟨w,q1,?_⟩
      cases bb with
      | val d=>exact q2
      | own dd =>
       obtain ⟨a,vs,z1,z2,z3,z4,z5⟩:=q2
       have ne : a ≠ Dd:=fun z=>by rw [z,D6] at z4; cases z4
       exact ⟨a,vs,z1,by rw [D7 ne]; exact z2,z3,z4,z5⟩
  ·left
   have : i = ds.length:=by omega
   subst this
   rw [List.drop_length] at ec
   cases ec
   rw [List.append_nil] at eo
   subst eo
   exact ⟨Ys (Nat.le_refl _),k _ H' Hf' (g1.trans gr) ⟨Dd,ys,rfl,g1.big.free hD,hd1,hd2,rp⟩⟩
 ·cases e2
end
end G
namespace G
open PySem PySem.Spec PyProof.Rows L2
section
variable {X : Cx}
noncomputable def av7 (N N' : List Str) (n : Nat) (caps : List Nat) (sc scope : Scope) : Bool :=
 (match scope.kind with | .function=>true | _=>false) &&
 (scope.names.all fun y=>(match y.2 with | .cell=>false | .local=>scope.names.lookup y.1 == some .local | .free=>sc.names.lookup y.1 == some .cell || sc.names.lookup y.1 == some .free | _=>true)) &&
 (N'.length == n + caps.length) &&
 ((List.range caps.length).all fun i=>match caps[i]? with
  | some j=>(match N[j]? with | some x=>N'[n + i]? == some x && scope.names.lookup x == some .free | none=>false)
  | none=>true)
theorem bp8 {N N' : List Str} {n : Nat} {caps : List Nat} {sc scope : Scope} (h : av7 N N' n caps sc scope = true) (hN : X.N = N) (hS : X.env.scope = sc) : CompSc X N' n caps scope:=by
 subst hN hS
 unfold av7 at h
 simp only [Bool.and_eq_true,List.all_eq_true] at h
 obtain ⟨⟨⟨h1,h2⟩,h3⟩,h4⟩:=h
 refine ⟨?_,fun y hy e=>?_,fun y hy e=>?_,fun y hy e=>?_,by simpa using h3,fun i j e=>?_⟩
 ·cases q : scope.kind <;> rw [q] at h1 <;> first | rfl | cases h1
 ·have:=h2 y hy
  rw [e] at this; cases this
 ·have:=h2 y hy
  rw [e] at this; simpa using this
 ·have:=h2 y hy
  rw [e] at this; simpa using this
 ·have hi : i < caps.length:=(List.getElem?_eq_some_iff.mp e).1
  have:=h4 i (by simpa using hi)
  rw [e] at this
  simp only at this
  cases q : X.N[j]? with
  | none=>rw [q] at this; cases this
  | some x =>
   rw [q] at this
   simp only [Bool.and_eq_true] at this
   exact ⟨x,rfl,by simpa using this.1,by simpa using this.2⟩
theorem bh2 {N' : List Str} {n : Nat} {caps : List Nat} {scope : Scope} {pins : List (Addr × Obj)} {σ : L2.St} {H : Hp} {s : Shared} (S : CompSc X N' n caps scope) (I : Inv X pins σ H s) : closureFor scope X.env = pure (R1 X.env.cells scope.names []) :=
 bQ0 fun y hy e=>I.ok.has y.1 (S.free y hy e)
theorem bN4 {N' : List Str} {n : Nat} {caps : List Nat} {scope : Scope} {elt tgt iter : Expr} {ifs : List Expr} {pos : Pos} {src : Rho → Option (List D)} {g : D → Rho → Option Rho} {c : Rho → Option Bool} {e : DE} (S : CompSc X N' n caps scope) (hx : ∀ e s,X.xe e s → False)
  (hi : JI X tgt iter src) (hg : ∀ C s0 H0 ex,JG (G4 X N' scope C s0 H0 ex) tgt g) (ht : ∀ C s0 H0 ex,JTs (G4 X N' scope C s0 H0 ex) ifs c) (he : ∀ C s0 H0 ex,JE (G4 X N' scope C s0 H0 ex) elt e)
  (hc : X.calm = true:=by rfl) (hs : ∀ x,foldedSetIterable iter X.env x = pure x:=by intro _; rfl) : JN X (.ListComp elt [⟨tgt,iter,ifs,0⟩] scope pos) (D2 n caps src g c e):=by
 intro ρ out h
 obtain ⟨ds,e1,k⟩:=al7 (K:=X.K) h
 intro pins s σ H Q I t
 rw [eval_ListComp]
 refine wpAny_comprehension_free (use:=none) rfl hs (bh2 S I) S.kind S.loc (aT6 (RR:=fun acc C=>compPost (model X.prog X.w) X.A X.xe none (EP X pins σ Q) acc C) S hx hc (hi ρ ds e1) (g:=tgJ X.K g) (tc:=aD2 X.K c) (te:=bd3 X.K e) hg ht (fun C s0 H0 ex pins s σ H Q I ⟨ρ,d,e,t⟩=>he C s0 H0 ex ρ d e pins s σ H Q I t) I (k σ H Q t) ?_)
 intro Dd C r s' hr ⟨m,hn,kk⟩ _
 subst hr
 exact ⟨m,hn,fun h' sb=>let ⟨H',I',q⟩:=kk h' sb; ⟨.ref Dd,H',I',rfl,q⟩⟩
theorem ax9 {N' : List Str} {n : Nat} {caps : List Nat} {scope : Scope} {elt tgt iter : Expr} {ifs : List Expr} {pos pos' spos : Pos} {i : Nat} {x : Str} {wi : TI} {g : TG} {tc : TT} {te : TE} (S : CompSc X N' n caps scope) (hx : ∀ e s,X.xe e s → False) (hc : X.calm = true)
  (hN : X.N.Nodup) (hi : X.N[i]? = some x) (hl : X.env.scope.names.lookup x = some .local) (hsrc : PI X tgt iter wi) (hg : ∀ C s0 H0 ex,PG (G4 X N' scope C s0 H0 ex) tgt g) (ht : ∀ C s0 H0 ex,PTs (G4 X N' scope C s0 H0 ex) ifs tc) (he : ∀ C s0 H0 ex,PE (G4 X N' scope C s0 H0 ex) elt te)
  (hsw : swapsWith (.ListComp elt [⟨tgt,iter,ifs,0⟩] scope pos) (some (.Name x pos')) spos.line X.env = pure true) (hs : ∀ x,foldedSetIterable iter X.env x = pure x) :
  PS X (.Assign [.Name x pos'] (.ListComp elt [⟨tgt,iter,ifs,0⟩] scope pos) spos) (fun En σ H=>bt7 n caps wi g tc te σ H fun v H'=>En.nx (σ.set i (some v)) H'):=by
 intro pins s σ H En I h
 rw [exec_Assign_Name_used _ _ _ _ hsw]
 refine wpAny_bind (wpAny_standAt (wpAny_bind ?_))
 show wpAny _ X.A (do let _ ← comprehension (.ListComp elt [⟨tgt,iter,ifs,0⟩] scope pos) scope X.env _ (newList []) false (eval iter X.env) (some (assign (.Name x pos') X.env))) _ _ s
 refine wpAny_bind (wpAny_mono (wpAny_comprehension_free (use:=some (assign (.Name x pos') X.env)) (Q:=fun _ s'=>SP X pins En .next s') rfl hs (bh2 S I) S.kind S.loc
  (aT6 (RR:=fun acc C=>compPost (model X.prog X.w) X.A X.xe (some (assign (.Name x pos') X.env)) (fun _ s'=>SP X pins En .next s') acc C) S hx hc hsrc hg ht he I h ?_)) (fun _ s' hq=>wpAny_pure (wpAny_pure hq)) fun _ _ z=>z)
 intro Dd C r s' hr _ ⟨s2,fp,σ',H2,H',eC,I2,f2,I',q⟩
 subst hr eC
 have IX : Inv X pins σ H' s':=aF4 (h':=s'.heap) I2 f2 I' (Heap.SameBut.refl ..)
 obtain ⟨mC,hnC,_⟩:=I'.loc
 have hCL : s2.heap.objs.size ≠ X.env.locals:=fun z=>by
  have:=I2.lt
  rw [← z] at this
  exact Nat.lt_irrefl _ this
 show wpAny _ X.A (assign (.Name x pos') X.env (.ref Dd)) _ _ _
 refine wpAny_assign_Name (aD5 (v:=.ref Dd) IX hN hi (.inl hl) rfl (fun s3 I3 ⟨a,sb,ha⟩=>?_) (.inr hl))
 have hCa : s2.heap.objs.size ≠ a:=fun z=>by
  rcases ha with ha | ha
  ·exact hCL (z.trans ha)
  ·obtain ⟨v,q'⟩:=I2.cell x a ha
   have:=q'.lt
   rw [← z] at this
   exact Nat.lt_irrefl _ this
 refine ⟨mC,hnC.sameBut sb hCa,fun h' sb'=>?_⟩
 refine ⟨_,H',I3.turned (t':=s3.toks) (it:=s2.heap.objs.size) (fun b o hb e=>sb'.extBut b o hb e) I'.free hCL (.inr I2.sz) (fun y c e z=>?_) (fun p hp z=>?_),q⟩
 ·obtain ⟨v,q'⟩:=I2.cell y c e
  have:=q'.lt
  rw [z] at this
  exact Nat.lt_irrefl _ this
 ·have:=Heap.lt_size (I2.pin p hp).1
  rw [z] at this
  exact Nat.lt_irrefl _ this
noncomputable def P7 (i : Nat) (f : Rho → Option (List D)) : DS:=fun ρ=>(f ρ).map fun ds=>.nx (ρ.set i (some (.val (.list ds))))
theorem bM9 (i : Nat) {N' : List Str} {n : Nat} {caps : List Nat} {scope : Scope} {elt tgt iter : Expr} {ifs : List Expr} {pos pos' spos : Pos} {x : Str} {src : Rho → Option (List D)} {g : D → Rho → Option Rho} {c : Rho → Option Bool} {e : DE} (hN : X.N.Nodup) (S : CompSc X N' n caps scope) (hx : ∀ e s,X.xe e s → False)
  (hi : JI X tgt iter src) (hg : ∀ C s0 H0 ex,JG (G4 X N' scope C s0 H0 ex) tgt g) (ht : ∀ C s0 H0 ex,JTs (G4 X N' scope C s0 H0 ex) ifs c) (he : ∀ C s0 H0 ex,JE (G4 X N' scope C s0 H0 ex) elt e)
  (hi2 : X.N[i]? = some x:=by rfl) (hl : X.env.scope.names.lookup x = some .local:=by rfl) (hsw : swapsWith (.ListComp elt [⟨tgt,iter,ifs,0⟩] scope pos) (some (.Name x pos')) spos.line X.env = pure true:=by rfl)
  (hc : X.calm = true:=by rfl) (hs : ∀ x,foldedSetIterable iter X.env x = pure x:=by intro _; rfl) : JS X (.Assign [.Name x pos'] (.ListComp elt [⟨tgt,iter,ifs,0⟩] scope pos) spos) (P7 i (D2 n caps src g c e)):=fun ρ fl q H0 Hf0=>by
 obtain ⟨out,e1,e2⟩:=Option.map_eq_some_iff.mp q
 subst e2
 obtain ⟨ds,e3,k⟩:=al7 (K:=X.K) e1
 refine P2 (ax9 S hx hc hN hi2 hl (hi ρ ds e3) (g:=tgJ X.K g) (tc:=aD2 X.K c) (te:=bd3 X.K e) hg ht (fun C s0 H0 ex pins s σ H Q I ⟨ρ,d,e,t⟩=>he C s0 H0 ex ρ d e pins s σ H Q I t) hsw hs) fun En σ H ⟨Hf,a,ee⟩=>k σ H _ ⟨H0,Hf,a.gr.sub,a.sl,fun v H' Hf' gg ⟨p,vs,z1,z2,z3,z4,z5⟩=>?_⟩
 subst z1
 have g2:=gg.freeze z3 z4 z2
 exact ee _ H' _ ⟨a.gr.trans g2,(a.sl.grow g2).set ⟨p,vs,rfl,SqL.of D6,z5.mono (E8 z4)⟩⟩ g2.ext
theorem cg1 {i j : Nat} {x y : Str} {a b : Expr} {f : Rho → Option (List D)} {px py pt : Pos} {kt k2 pt2} {pos : Pos} (hN : X.N.Nodup) (ha : JA X [a,b] f) (hw : swappedStores [.Tuple [.Name x px,.Name y py] kt pt] (.Tuple [a,b] k2 pt2) X.env = pure (some [x,y])) (hij : i ≠ j)
  (hi : X.N[i]? = some x:=by rfl) (hj : X.N[j]? = some y:=by rfl) (hx : X.env.scope.names.lookup x = some .local:=by rfl) (hy : X.env.scope.names.lookup y = some .local:=by rfl) (hc : X.calm = true:=by rfl)
  (hs : swapsWithSole [.Tuple [.Name x px,.Name y py] kt pt] (.Tuple [a,b] k2 pt2) pos.line X.env = pure false:=by rfl) : JS X (.Assign [.Tuple [.Name x px,.Name y py] kt pt] (.Tuple [a,b] k2 pt2) pos) (bv0 i j f):=fun ρ fl q H0 Hf0=>by
 obtain ⟨ds,e1,e2⟩:=xbm q
 split at e2
 ·cases e2
  refine P2 (ca9 hc hN hi hj hij hx hy (fun pos pins s σ H Q I t=>ha.run ρ _ e1 pos pins s σ H Q I t) hw hs) fun En σ H ⟨Hf,at',e⟩=>⟨H0,Hf,at'.gr.sub,at'.sl,fun vs H' Hf' gg rp=>?_⟩
  obtain ⟨v,r,rfl,r1,w,r',rfl,r2,r3⟩:=rp
  cases r3
  exact ⟨v,w,rfl,e _ H' Hf' ⟨at'.gr.trans gg,((at'.sl.grow gg).set r1).set r2⟩ gg.ext⟩
 ·cases e2
noncomputable def x3 (f : DE) (g : D → Rho → Option Rho) : DS:=fun ρ=>(f ρ).bind fun d=>(g d ρ).map Fl.nx
theorem bA2 {tg e : Expr} {f : DE} {g : D → Rho → Option Rho} {pos : Pos} (he : JE X e f) (hg : JG X tg g) (hs : swapsWithSole [tg] e pos.line X.env = pure false:=by rfl) (hw : swappedStores [tg] e X.env = pure none:=by rfl)
  (h1 : (assignEach [tg] X.env).map (·.2) = [assign tg X.env]:=by rfl) : JS X (.Assign [tg] e pos) (x3 f g):=fun ρ fl q H0 Hf0=>by
 obtain ⟨d,e1,e2⟩:=xbm q
 obtain ⟨ρ',e3,e4⟩:=Option.map_eq_some_iff.mp e2
 subst e4
 exact P2 (cb1 (he ρ d e1) hg hs hw h1) fun En σ H ⟨Hf,a,ee⟩=>⟨H0,Hf,a.gr.sub,a.sl,fun v H' Hf' gg r=>⟨d,ρ,ρ',H0,Hf',e3,gg.sub,a.sl.grow gg,r,fun σ' sl'=>ee σ' H' Hf' ⟨a.gr.trans gg,sl'⟩ gg.ext⟩⟩
noncomputable def U4 (i : Nat) (f : Rho → Option (List D)) : DS:=fun ρ=>(f ρ).map fun ds=>.nx (ρ.set i (some (.own ds)))
theorem Slots.setOwn {K : PySem.W.Frag} {H0 H H' Hf Hf' : Hp} {ρ : Rho} {σ : L2.St} {i : Nat} {ds : List D} {a : Addr} {vs : List V} (s : Slots K H0 ρ σ H Hf) (g : Grow H Hf H' Hf') (n0 : H0 a = none) (n : H a = none) (h : H' a = some (.lst vs)) (nf : Hf' a = none) (r : Reps K Hf' ds vs) :
  Slots K H0 (ρ.set i (some (.own ds))) (σ.set i (some (.ref a))) H' Hf':=by
 have s':=s.grow g
 have old : ∀ (j : Nat) (es : List D),i ≠ j → ρ[j]? = some (some (.own es)) → σ[j]? ≠ some (some (.ref a)):=fun j es hj e z=>by
  obtain ⟨v,h1,b,us,e1,h2,_⟩:=s.is j _ e
  rw [z] at h1; cases h1; cases e1
  rw [n] at h2; cases h2
 refine ⟨by simp [s.len],fun j b e=>?_,fun j k ds1 es b h1 h2 h3 h4=>?_⟩
 ·by_cases q : i = j
  ·subst q
   have hi : i < ρ.length:=by simpa using (List.getElem?_eq_some_iff.mp e).1
   have hi' : i < σ.length:=by rw [← s.len]; exact hi
   rw [List.getElem?_set_self hi] at e
   cases e
   exact ⟨_,List.getElem?_set_self hi',a,vs,rfl,h,nf,n0,r⟩
  ·rw [List.getElem?_set_ne q] at e
   obtain ⟨u,h1,h2⟩:=s'.is j b e
   exact ⟨u,by rw [List.getElem?_set_ne q]; exact h1,h2⟩
 ·by_cases qj : i = j
  ·by_cases qk : i = k
   ·rw [← qj,← qk]
   ·subst qj
    have hi : i < ρ.length:=by simpa using (List.getElem?_eq_some_iff.mp h1).1
    rw [List.getElem?_set_self (by rw [← s.len]; exact hi)] at h3
    rw [List.getElem?_set_ne qk] at h2 h4
    cases h3
    exact (old k es qk h2 h4).elim
  ·rw [List.getElem?_set_ne qj] at h1 h3
   by_cases qk : i = k
   ·subst qk
    have hi : i < ρ.length:=by simpa using (List.getElem?_eq_some_iff.mp h2).1
    rw [List.getElem?_set_self (by rw [← s.len]; exact hi)] at h4
    cases h4
    exact (old j ds1 qj h1 h3).elim
   ·rw [List.getElem?_set_ne qk] at h2 h4
    exact s.apart j k ds1 es b h1 h2 h3 h4
theorem cg2 (i : Nat) {x : Str} {e : Expr} {f : Rho → Option (List D)} {pos pos' : Pos} (hN : X.N.Nodup) (h : JN X e f) (hi : X.N[i]? = some x:=by rfl) (hx : Loc X.env.scope x:=by first | exact Or.inl rfl | exact Or.inr rfl)
  (hs : swapsWith e (some (.Name x pos')) pos.line X.env = pure false:=by rfl) (hf : X.fn x = true ∨ X.env.scope.names.lookup x = some .local:=by first | exact .inl rfl | exact .inr rfl) : JS X (.Assign [.Name x pos'] e pos) (U4 i f):=fun ρ fl q H0 Hf0=>by
 obtain ⟨ds,e1,e2⟩:=Option.map_eq_some_iff.mp q
 subst e2
 refine P2 (bv8 hN hi hx (h ρ ds e1) hs hf) fun En σ H ⟨Hf,a,e⟩=>⟨H0,Hf,a.gr.sub,a.sl,fun v H' Hf' g ⟨p,vs,z1,z2,z3,z4,z5⟩=>?_⟩
 subst z1
 exact e _ H' Hf' ⟨a.gr.trans g,a.sl.setOwn g (a.gr.big.free z2) z2 z3 z4 z5⟩ g.ext
noncomputable def T1 (i : Nat) (f : DE) : DS:=fun ρ=>match ρ[i]? with
 | some (some (.own ds))=>if ds.length < 16777216 then (f ρ).map fun d=>.nx (ρ.set i (some (.own (ds ++ [d])))) else none
 | _=>none
theorem cg7 (i : Nat) {x : Str} {e : Expr} {f : DE} {p apos cpos pos : Pos} (h : JE X e f) (hN : X.N[i]? = some x:=by rfl) (hv : Vis X.env.scope x:=by first | exact Or.inl rfl | exact Or.inr (Or.inl rfl) | exact Or.inr (Or.inr rfl)) (hd : (x == ("__debug__" : Str)) = false:=by decide)
  (hcd : (x == ("__classdict__" : Str)) = false:=by decide) (hbase : attributeBase (.Name x p) "append" X.env (eval (.Name x p) X.env) = eval (.Name x p) X.env:=by rfl)
  (hfew : ((backTo cpos (starEach [e] X.env)).all (fun x=>!x.1) && (backToKw cpos (keywordEach [] X.env)).all (fun x=>x.1.isSome)
   && decide (([e] : List Expr).length + ([] : List Keyword).length + (if ([] : List Keyword).isEmpty then 0 else 1) < 30)) = true:=by rfl)
  (hline : (apos.endLine == cpos.line) = true:=by rfl) (hs : starEach [e] X.env = [(false,eval e X.env)]:=by rfl) (hsw : swapsWith (.Call (.Attribute (.Name x p) "append" apos) [e] [] cpos) none pos.line X.env = pure false:=by rfl) :
  JS X (.Expr (.Call (.Attribute (.Name x p) "append" apos) [e] [] cpos) pos) (T1 i f):=fun ρ fl q H0 Hf0=>by
 unfold T1 at q
 split at q
 ·rename_i ds eo
  split at q
  ·rename_i hz
   obtain ⟨d,e1,e2⟩:=Option.map_eq_some_iff.mp q
   subst e2
   refine P2 (aI3 (be9 PySem.F.plainAttrs_list PySem.F.slot_list_append PySem.F.type_list_append aE1 (ak8 hN hv hd hcd) (E6 (h ρ d e1) J7 hs) hbase hfew hline hs) hsw) fun En σ H ⟨Hf,a,ee⟩=>?_
   obtain ⟨v,h1,b,vs,rfl,h2,h3,h4,h5⟩:=a.sl.is i _ eo
   refine ⟨_,h1,.inl ⟨rfl,vs,SqL.of h2⟩,H0,Hf,a.gr.sub,a.sl,fun w H' Hf' gg r=>?_⟩
   have hb : H' b = some (.lst vs):=gg.big _ _ h2
   have hfb : Hf' b = none:=gg.nofr h2 h3
   have g2:=a.gr.trans gg
   have sl2:=a.sl.grow gg
   refine ⟨b,vs,w,rfl,rfl,hb,by rw [h5.length,sizeLine_eq]; exact hz,ee _ _ Hf' ⟨⟨fun c u z=>?_,fun c u z=>?_,g2.ext,g2.new⟩,?_⟩ gg.ext⟩
   ·rw [D7 (D8 z h4)]; exact g2.big c u z
   ·rw [D7 (D8 z hfb)]; exact g2.sub c u z
   ·refine ⟨by simpa using sl2.len,fun j bb z=>?_,fun j k ds1 es c q1 q2 q3 q4=>?_⟩
    ·by_cases qj : i = j
     ·subst qj
      have hi : i < ρ.length:=(List.getElem?_eq_some_iff.mp eo).1
      rw [List.getElem?_set_self hi] at z
      cases z
      exact ⟨_,h1,b,vs ++ [w],rfl,D6,hfb,h4,(h5.mono gg.ext).append ⟨w,[],rfl,r,rfl⟩⟩
     ·rw [List.getElem?_set_ne qj] at z
      obtain ⟨u,z1,z2⟩:=sl2.is j bb z
      refine ⟨u,z1,?_⟩
      cases bb with
      | val d=>exact z2
      | own dd =>
       obtain ⟨a',vs',y1,y2,y3,y4,y5⟩:=z2
       have ne : a' ≠ b:=fun zz=>by
        subst zz y1
        exact qj (a.sl.apart i j ds dd a' eo z h1 z1)
       exact ⟨a',vs',y1,by rw [D7 ne]; exact y2,y3,y4,y5⟩
    ·have q1' : ∃ dd,ρ[j]? = some (some (.own dd)):=by
      by_cases qj : i = j
      ·subst qj; exact ⟨ds,eo⟩
      ·rw [List.getElem?_set_ne qj] at q1; exact ⟨_,q1⟩
     have q2' : ∃ dd,ρ[k]? = some (some (.own dd)):=by
      by_cases qj : i = k
      ·subst qj; exact ⟨ds,eo⟩
      ·rw [List.getElem?_set_ne qj] at q2; exact ⟨_,q2⟩
     obtain ⟨d1,q1'⟩:=q1'
     obtain ⟨d2,q2'⟩:=q2'
     exact a.sl.apart j k d1 d2 c q1' q2' q3 q4
  ·cases q
 ·cases q
noncomputable def frz (i : Nat) (ρ : Rho) : Rho:=match ρ[i]? with
 | some (some (.own ds))=>ρ.set i (some (.val (.list ds)))
 | _=>ρ
theorem ck3 {K : PySem.W.Frag} {H0 Hf0 H Hf : Hp} {ρ : Rho} {σ : L2.St} (i : Nat) (a : At K H0 Hf0 ρ σ H Hf) : ∃ Hf',F9 Hf Hf' ∧ At K H0 Hf0 (frz i ρ) σ H Hf':=by
 unfold frz
 split
 ·rename_i ds eo
  obtain ⟨v,h1,b,vs,rfl,h2,h3,h4,h5⟩:=a.sl.is i _ eo
  have g : Grow H0 Hf0 H (upd Hf b (.lst vs)):=a.gr.freeze h2 h3 h4
  refine ⟨upd Hf b (.lst vs),E8 h3,g,⟨by simpa using a.sl.len,fun j bb z=>?_,fun j k ds1 es c q1 q2 q3 q4=>?_⟩⟩
  ·have hi : i < ρ.length:=(List.getElem?_eq_some_iff.mp eo).1
   by_cases qj : i = j
   ·subst qj
    rw [List.getElem?_set_self hi] at z
    cases z
    exact ⟨_,h1,b,vs,rfl,SqL.of D6,h5.mono (E8 h3)⟩
   ·rw [List.getElem?_set_ne qj] at z
    obtain ⟨u,z1,z2⟩:=a.sl.is j bb z
    refine ⟨u,z1,?_⟩
    cases bb with
    | val d=>exact Rep.mono (E8 h3) z2
    | own dd =>
     obtain ⟨a',vs',y1,y2,y3,y4,y5⟩:=z2
     have ne : a' ≠ b:=fun zz=>by
      subst zz y1
      exact qj (a.sl.apart i j ds dd a' eo z h1 z1)
     exact ⟨a',vs',y1,y2,by rw [D7 ne]; exact y3,y4,y5.mono (E8 h3)⟩
  ·have hi : i < ρ.length:=(List.getElem?_eq_some_iff.mp eo).1
   have qj : i ≠ j:=fun z=>by subst z; rw [List.getElem?_set_self hi] at q1; cases q1
   have qk : i ≠ k:=fun z=>by subst z; rw [List.getElem?_set_self hi] at q2; cases q2
   rw [List.getElem?_set_ne qj] at q1
   rw [List.getElem?_set_ne qk] at q2
   exact a.sl.apart j k ds1 es c q1 q2 q3 q4
 ·exact ⟨Hf,F9.refl _,a⟩
noncomputable def ak6 (i : Nat) (f : DS) : DS:=fun ρ=>f (frz i ρ)
theorem cg3 (i : Nat) {st : Stmt} {f : DS} (h : JS X st f) : JS X st (ak6 i f):=fun ρ fl q H0 Hf0=>P2 (h (frz i ρ) fl q H0 Hf0) fun En σ H ⟨Hf,a,e⟩=>by
 obtain ⟨Hf',s,a'⟩:=ck3 i a
 exact ⟨Hf',a',Fl.ends_mono e s⟩
noncomputable def cn4 (K : PySem.W.Frag) (H0 Hf0 : Hp) (f : DS) : TS:=fun En σ H=>∃ ρ fl,f ρ = some fl ∧ tJS K H0 Hf0 ρ fl En σ H
theorem be6 {sts : List Stmt} {f : DS} {H0 Hf0 : Hp} (h : JSs X sts f) : PSs X sts (cn4 X.K H0 Hf0 f):=fun pins s σ H En I ⟨ρ,fl,e,t⟩=>h ρ fl e H0 Hf0 pins s σ H En I t
theorem ca7 {e : Expr} {c : Rho → Option Bool} (h : JT X e c) : PT X e (aD2 X.K c):=fun pins s σ H Q I ⟨ρ,b,e,t⟩=>h ρ b e pins s σ H Q I t
noncomputable def V4 (t : Rho → Option Bool) (f : DS) : Nat → DS
 | 0=>fun _=>none
 | n + 1=>fun ρ=>(t ρ).bind fun c=>if c then (f ρ).bind fun fl=>match fl with
   | .nx ρ'=>V4 t f n ρ'
   | .ct ρ'=>V4 t f n ρ'
   | .bk ρ'=>some (.nx ρ')
   | .rt d=>some (.rt d)
  else some (.nx ρ)
theorem al3 {t : Rho → Option Bool} {f : DS} : ∀ {n : Nat} {ρ : Rho} {fl : Fl},V4 t f n ρ = some fl → V4 t f (n + 1) ρ = some fl
 | 0,_,_,h=>by cases h
 | n + 1,ρ,fl,h=>by
  obtain ⟨c,e1,h⟩:=xbm h
  show (t ρ).bind _ = _
  rw [e1]
  cases c with
  | false=>exact h
  | true =>
   obtain ⟨fl1,e2,h⟩:=xbm h
   show (f ρ).bind _ = _
   rw [e2]
   cases fl1 with
   | nx ρ'=>exact al3 (n:=n) h
   | ct ρ'=>exact al3 (n:=n) h
   | bk ρ'=>exact h
   | rt d=>exact h
theorem aR3 {t : Rho → Option Bool} {f : DS} {n m : Nat} {ρ : Rho} {fl : Fl} (h : V4 t f n ρ = some fl) (l : n ≤ m) : V4 t f m ρ = some fl:=by
 induction l with
 | refl=>exact h
 | step _ ih=>exact al3 ih
open Classical in
noncomputable def w9 (t : Rho → Option Bool) (f : DS) : DS:=fun ρ=>if h : ∃ fl n,V4 t f n ρ = some fl then some h.choose else none
theorem aD8 {t : Rho → Option Bool} {f : DS} {n : Nat} {ρ : Rho} {fl : Fl} (h : V4 t f n ρ = some fl) : w9 t f ρ = some fl:=by
 have hx : ∃ fl n,V4 t f n ρ = some fl:=⟨fl,n,h⟩
 unfold w9
 rw [dif_pos hx]
 obtain ⟨m,hm⟩:=hx.choose_spec
 have h1:=aR3 h (Nat.le_max_left n m)
 have h2:=aR3 hm (Nat.le_max_right n m)
 rw [h1] at h2
 exact h2.symm
theorem bk7 {t : Rho → Option Bool} {f : DS} {ρ : Rho} {fl : Fl} (h : w9 t f ρ = some fl) : ∃ n,V4 t f n ρ = some fl:=by
 unfold w9 at h
 split at h
 ·rename_i hx
  cases h
  exact hx.choose_spec
 ·cases h
theorem bA0 {c : Expr} {body : List Stmt} {t : Rho → Option Bool} {f : DS} {pos : Pos} (hc : JT X c t) (hb : JSs X body f) (hp : PassesOwn (model X.prog X.w) X.A X.env X.xe:=by exact PassesOwn.never) : JS X (.While c body [] pos) (w9 t f):=fun ρ fl q H0 Hf0=>by
 obtain ⟨n,hn⟩:=bk7 q
 refine P2 (bv7 hp (ca7 hc) (be6 (H0:=H0) (Hf0:=Hf0) hb)) fun En σ H ⟨Hf,a,e⟩=>?_
 refine ⟨fun m σ H=>∃ Hf' ρ',At X.K H0 Hf0 ρ' σ H Hf' ∧ F9 Hf Hf' ∧ V4 t f m ρ' = some fl,⟨n,Hf,ρ,a,F9.refl _,hn⟩,?_⟩
 rintro m σ' H' ⟨Hf',ρ',a',s',hm⟩
 cases m with
 | zero=>cases hm
 | succ m =>
  obtain ⟨b,e1,hm⟩:=xbm hm
  refine ⟨ρ',b,e1,H0,Hf',a'.gr.sub,a'.sl,fun H2 Hf2 g2=>?_⟩
  have a2:=a'.grow g2
  have s2:=s'.trans g2.ext
  cases b with
  | false =>
   have : fl = .nx ρ':=by simpa using hm.symm
   subst this
   exact aC1 (e σ' H2 Hf2 a2 s2)
  | true =>
   obtain ⟨fl1,e2,hm⟩:=xbm (show (f ρ').bind _ = some fl from hm)
   refine aC0 ⟨fun σ3 H3=>∃ m',m' < m + 1 ∧ ∃ Hf' ρ',At X.K H0 Hf0 ρ' σ3 H3 Hf' ∧ F9 Hf Hf' ∧ V4 t f m' ρ' = some fl,fun σ3 H3 z=>z,ρ',fl1,e2,Hf2,a2,?_⟩
   cases fl1 with
   | nx ρ3=>exact fun σ3 H3 Hf3 a3 s3=>⟨m,Nat.lt_succ_self _,Hf3,ρ3,a3,s2.trans s3,hm⟩
   | ct ρ3=>exact fun σ3 H3 Hf3 a3 s3=>⟨m,Nat.lt_succ_self _,Hf3,ρ3,a3,s2.trans s3,hm⟩
   | bk ρ3 =>
    cases hm
    exact fun σ3 H3 Hf3 a3 s3=>e σ3 H3 Hf3 a3 (s2.trans s3)
   | rt d =>
    cases hm
    exact e
noncomputable def al4 (g : D → Rho → Option Rho) (f : DS) : List D → DS
 | []=>fun ρ=>some (.nx ρ)
 | d :: ds=>fun ρ=>(g d ρ).bind fun ρ1=>(f ρ1).bind fun fl=>match fl with
   | .nx ρ'=>al4 g f ds ρ'
   | .ct ρ'=>al4 g f ds ρ'
   | .bk ρ'=>some (.nx ρ')
   | .rt d=>some (.rt d)
noncomputable def W3 (src : Rho → Option (List D)) (g : D → Rho → Option Rho) (f : DS) : DS:=fun ρ=>(src ρ).bind fun ds=>al4 g f ds ρ
theorem cg4 {tg iter : Expr} {body : List Stmt} {src : Rho → Option (List D)} {g : D → Rho → Option Rho} {f : DS} {pos : Pos} (hi : JI X tg iter src) (hg : JG X tg g) (hb : JSs X body f) (hp : PassesOwn (model X.prog X.w) X.A X.env X.xe:=by exact PassesOwn.never) (hc : X.calm = true:=by rfl)
  (hs : ∀ x,foldedSetIterable iter X.env x = pure x:=by intro _; rfl) : JS X (.For tg iter body [] pos) (W3 src g f):=fun ρ fl q H0 Hf0=>by
 obtain ⟨ds,e1,e2⟩:=xbm q
 refine P2 (cb0 hp hc (hi ρ ds e1) hg (be6 (H0:=H0) (Hf0:=Hf0) hb) hs) fun En σ H ⟨Hf,a,e⟩=>⟨H0,Hf,a.gr.sub,a.sl,fun J H1 Hf1 g1 Y=>?_⟩
 refine ⟨fun i m σ H=>m = ds.length - i ∧ i ≤ ds.length ∧ ∃ Hf' ρ',At X.K H0 Hf0 ρ' σ H Hf' ∧ F9 Hf1 Hf' ∧ al4 g f (ds.drop i) ρ' = some fl,⟨ds.length,by simp,Nat.zero_le _,Hf1,ρ,a.grow g1,F9.refl _,by simpa using e2⟩,?_⟩
 rintro i m σ' H' ⟨rfl,hi,Hf',ρ',a',s',hm⟩
 obtain ⟨Ys,Yg⟩:=Y i H' Hf' s' a'.gr.sub
 rcases Nat.lt_or_ge i ds.length with hlt | hge
 ·right
  obtain ⟨go,yl⟩:=Yg ds[i] (by simp [hlt])
  rw [List.drop_eq_getElem_cons hlt] at hm
  obtain ⟨ρ1,c1,hm⟩:=xbm hm
  obtain ⟨fl1,c2,hm⟩:=xbm hm
  refine ⟨go,fun σ3 H3=>∃ m',m' < ds.length - i ∧ m' = ds.length - (i + 1) ∧ i + 1 ≤ ds.length ∧ ∃ Hf' ρ',At X.K H0 Hf0 ρ' σ3 H3 Hf' ∧ F9 Hf1 Hf' ∧ al4 g f (ds.drop (i + 1)) ρ' = some fl,fun σ3 H3 ⟨m',z1,z2⟩=>⟨m',z1,z2⟩,fun x H2 hy=>?_⟩
  obtain ⟨Hf2,g2,r2⟩:=yl x H2 hy
  have a2:=a'.grow g2
  refine ⟨ds[i],ρ',ρ1,H0,Hf2,c1,g2.sub,a2.sl,r2,fun σ3 sl3=>⟨ρ1,fl1,c2,Hf2,⟨a2.gr,sl3⟩,?_⟩⟩
  have s2:=s'.trans g2.ext
  cases fl1 with
  | nx ρ3=>exact fun σ3 H3 Hf3 a3 s3=>⟨_,by omega,rfl,hlt,Hf3,ρ3,a3,s2.trans s3,hm⟩
  | ct ρ3=>exact fun σ3 H3 Hf3 a3 s3=>⟨_,by omega,rfl,hlt,Hf3,ρ3,a3,s2.trans s3,hm⟩
  | bk ρ3 =>
   cases hm
   exact fun σ3 H3 Hf3 a3 s3=>e σ3 H3 Hf3 a3 (g1.ext.trans (s2.trans s3))
  | rt d =>
   cases hm
   exact e
 ·left
  have : i = ds.length:=by omega
  subst this
  rw [List.drop_length] at hm
  cases hm
  exact ⟨Ys (Nat.le_refl _),e σ' H' Hf' a' (g1.ext.trans s')⟩
theorem bM6 {pos : Pos} : JS X (.Pass pos) C7:=fun ρ fl q H0 Hf0=>by
 cases q
 exact P2 bI4 fun En σ H ⟨Hf,a,e⟩=>e σ H Hf a (F9.refl _)
theorem cg6 {pos : Pos} : JS X (.Break pos) (fun ρ=>some (.bk ρ)):=fun ρ fl q H0 Hf0=>by
 cases q
 exact P2 bv9 fun En σ H ⟨Hf,a,e⟩=>e σ H Hf a (F9.refl _)
end
noncomputable def ap8 (n : Nat) (ds : List D) : Rho:=ds.map (fun d=>some (B.val d)) ++ List.replicate (n - ds.length) none
noncomputable def F8 (g : DS) (n : Nat) : List D → Option D:=fun ds=>(g (ap8 n ds)).bind fun fl=>match fl with
 | .rt d=>some d
 | .nx _=>some .none
 | _=>none
theorem aN9 {K : PySem.W.Frag} {H0 H Hf : Hp} {N : List Str} {ds : List D} {vs : List V} (r : Reps K Hf ds vs) : Slots K H0 (ap8 N.length ds) (L2.o7 N vs) H Hf:=by
 have hl:=r.length
 have noown : ∀ (i : Nat) (b : B),(ap8 N.length ds)[i]? = some (some b) → ∃ d,ds[i]? = some d ∧ b = .val d:=fun i b h=>by
  unfold ap8 at h
  rcases Nat.lt_or_ge i ds.length with q | q
  ·rw [List.getElem?_append_left (by simpa using q),List.getElem?_map] at h
   rw [List.getElem?_eq_getElem q] at h ⊢
   simp only [Option.map_some,Option.some.injEq] at h
   exact ⟨ds[i],rfl,h.symm⟩
  ·rw [List.getElem?_append_right (by simpa using q),List.getElem?_replicate] at h
   split at h <;> cases h
 refine ⟨by simp [ap8,L2.o7,hl],fun i b e=>?_,fun i j d1 d2 a e1 _ _ _=>?_⟩
 ·obtain ⟨d,h1,h2⟩:=noown i b e
  subst h2
  obtain ⟨v,h3,h4⟩:=r.get h1
  refine ⟨v,?_,h4⟩
  have hi : i < vs.length:=(List.getElem?_eq_some_iff.mp h3).1
  unfold L2.o7
  rw [List.getElem?_append_left (by simpa using hi),List.getElem?_map,h3]; rfl
 ·obtain ⟨d,_,h2⟩:=noown i _ e1
  cases h2
theorem bP2 {P : Program} {w : World} {K : PySem.W.Frag} {mg : Str → Option Value} {base : Heap} {x qual : Str} {st : Stmt} {f : Addr} {fd : FuncData} {N ps : List Str} {k : Nat} {g : DS} (F : Fun K x qual st f fd) (S : FnScope N ps (J4 st))
  (hb : ∀ (cdv : Value) (A : Around) (outer : List Env) (s : Shared) (H : Hp) (E : XK),Room k (A.deeper (envOfC qual (J4 st) s.heap.objs.size f cdv)) → JSs (ba8 CX0 P w K mg base N qual (J4 st) f cdv A outer s H E).nox (R9 st) g) :
  FnOk P w K mg base CX0 (k + 1) f fd ps (spF K ps.length (F8 g N.length)):=by
 refine F.ok S (fun vs H Q E h=>h.1) fun cdv A outer s H vs Q E hr hsp=>?_
 obtain ⟨hlen,Hf,ds,d,ss,rp,e,kk⟩:=hsp
 obtain ⟨fl,e1,e2⟩:=xbm e
 refine ⟨_,hb cdv A outer s H E hr _ fl e1 H Hf,Hf,⟨Grow.refl ss,aN9 rp⟩,?_⟩
 cases fl with
 | rt d'=>cases e2; exact fun v H' Hf' g r=>kk v H' Hf' g r
 | nx ρ=>cases e2; exact fun σ' H' Hf' a _=>kk _ H' Hf' a.gr rfl
 | bk ρ=>cases e2
 | ct ρ=>cases e2
end G
namespace G
open PySem PySem.Spec PyProof.Rows L2
noncomputable def SIt : Bool → Heap → Addr → Addr → Nat → Prop
 | true=>Heap.IsTupleIter
 | false=>Heap.IsListIter
noncomputable def SSq : Bool → Heap → Addr → Array Value → Prop
 | true=>Heap.IsTuple
 | false=>Heap.IsList
section
variable {prog : Program} {w : World} {A : Around} {E : Value → Shared → Prop} {s : Shared} {t t1 t2 : Bool}
theorem SIt.ext {h h' : Heap} {it l : Addr} {k : Nat} (x : SIt t h it l k) (e : ∀ o,h.get? it = some o → h'.get? it = some o) : SIt t h' it l k:=by
 cases t with
 | true=>obtain ⟨o,ho,r⟩:=x; exact ⟨o,e o ho,r⟩
 | false=>obtain ⟨o,ho,r⟩:=x; exact ⟨o,e o ho,r⟩
theorem SSq.ext {h h' : Heap} {l : Addr} {xs : Array Value} (x : SSq t h l xs) (e : ∀ o,h.get? l = some o → h'.get? l = some o) : SSq t h' l xs:=by
 cases t with
 | true=>obtain ⟨o,ho,r⟩:=x; exact ⟨o,e o ho,r⟩
 | false=>obtain ⟨o,ho,r⟩:=x; exact ⟨o,e o ho,r⟩
theorem SIt.lt {h : Heap} {it l : Addr} {k : Nat} (x : SIt t h it l k) : it < h.objs.size:=by
 cases t with
 | true=>obtain ⟨o,ho,_⟩:=x; exact Heap.lt_size ho
 | false=>obtain ⟨o,ho,_⟩:=x; exact Heap.lt_size ho
theorem aV8 {it l : Addr} {k : Nat} {xs : Array Value} {x : Value} {Q : Value → Shared → Prop} (hit : s.heap.IsTupleIter it l k) (hl : s.heap.IsTuple l xs) (hx : xs[k]? = some x)
  (hQ : ∀ h',h'.IsTupleIter it l (k + 1) → Heap.SameBut it s.heap h' → Q x { s with heap:=h' }) : wpAny (model prog w) A (Builtin.SmallTypes.nextOf (.ref it)) Q E s:=by
 obtain ⟨o,ho,hc,hd⟩:=id hit; obtain ⟨ol,hol,_,nl,hdl⟩:=hl; unfold Builtin.SmallTypes.nextOf
 refine wpAny_bind (wpAny_callSpecial?_slot (name:=Str.ofString "__next__") hit.typeIs F.slot_tuple_iterator_next (wpAny_call_entry F.slot_tuple_iterator_next hit.typeIs F.entry_tuple_iterator_next ?_ (F.args_tuple_iterator_next_1 _)))
 show wpAny _ _ (field (.ref it) 0 >>= _) _ _ s; refine wpAny_bind (wpAny_field ho hd (x:=.ref l) rfl ?_); show wpAny _ _ (if (Value.ref l == Value.none) = true then _ else _) _ _ s
 rw [if_neg (show ¬ ((Value.ref l == Value.none) = true) from Bool.false_ne_true)]; show wpAny _ _ (field (.ref it) 1 >>= _) _ _ s
 refine wpAny_bind (wpAny_field ho hd (x:=.int k 0) rfl ?_); show wpAny _ _ (seqItems? (.ref l) >>= _) _ _ s; refine wpAny_bind (wpAny_seqItems hol hdl ?_); simp only [Int.toNat_natCast,hx]
 refine wpAny_bind (wpAny_setField ho hd (by simp) (wpAny_pure ⟨x,rfl,wpAny_pure (hQ _ ⟨_,Heap.get?_update_self _ ho (Obj.isFreed_of_fields (Obj.data_mapFields hd _)),(Obj.cls_mapFields ..).trans hc,?_⟩ (Heap.SameBut.update ..))⟩))
 rw [Obj.data_mapFields hd]; simp [rawInt]
theorem bi9 {it l : Addr} {k : Nat} {xs : Array Value} {Q : Value → Shared → Prop} (hh : A.handled = none) (hit : s.heap.IsTupleIter it l k) (hl : s.heap.IsTuple l xs) (hx : xs[k]? = none)
  (hE : ∀ h' e,Heap.ExtBut it s.heap h' → (∃ o,h'.get? e = some o ∧ o.cls = .type "StopIteration") → E (.ref e) { s with heap:=h' }) : wpAny (model prog w) A (Builtin.SmallTypes.nextOf (.ref it)) Q E s:=by
 obtain ⟨o,ho,hc,hd⟩:=id hit; obtain ⟨ol,hol,_,nl,hdl⟩:=hl; unfold Builtin.SmallTypes.nextOf
 refine wpAny_bind (wpAny_callSpecial?_slot (name:=Str.ofString "__next__") hit.typeIs F.slot_tuple_iterator_next (wpAny_call_entry F.slot_tuple_iterator_next hit.typeIs F.entry_tuple_iterator_next ?_ (F.args_tuple_iterator_next_1 _)))
 show wpAny _ _ (field (.ref it) 0 >>= _) _ _ s; refine wpAny_bind (wpAny_field ho hd (x:=.ref l) rfl ?_); show wpAny _ _ (if (Value.ref l == Value.none) = true then _ else _) _ _ s
 rw [if_neg (show ¬ ((Value.ref l == Value.none) = true) from Bool.false_ne_true)]; show wpAny _ _ (field (.ref it) 1 >>= _) _ _ s
 refine wpAny_bind (wpAny_field ho hd (x:=.int k 0) rfl ?_); show wpAny _ _ (seqItems? (.ref l) >>= _) _ _ s; refine wpAny_bind (wpAny_seqItems hol hdl ?_); simp only [Int.toNat_natCast,hx]
 refine wpAny_bind (wpAny_rule (wpAny_bind (wpAny_setField ho hd (by simp) ?_))); show wpAny _ _ (newExc (.type "StopIteration") [] >>= _) _ _ _; refine wpAny_bind ?_; simp only [newExc,newTuple]
 refine wpAny_bind (wpAny_newObj_type ?_ (by size_fits)); refine wpAny_bind (m:=firstArgMember _ _) (wpAny_of_eq (a:=Value.none) (by first | rfl | (simp only [firstArgMember]; rfl)) ?_); refine wpAny_newObj_type ?_ (by size_fits)
 simp only [raiseNew]; refine wpAny_bind (wpAny_handled ?_); first | rw [show A.in1.handled = none from hh] | rw [hh]
 refine wpAny_bind (wpAny_pure (wpAny_throw ?_)); exact hE _ _ (((Heap.SameBut.update ..).extBut.push _).push _) ⟨_,Heap.get?_push_size _ rfl,rfl⟩
theorem ac8 {it l : Addr} {k : Nat} {xs : Array Value} {x : Value} {Q : Value → Shared → Prop} (hit : SIt t s.heap it l k) (hl : SSq t s.heap l xs) (hx : xs[k]? = some x)
  (hQ : ∀ h',SIt t h' it l (k + 1) → Heap.SameBut it s.heap h' → Q x { s with heap:=h' }) : wpAny (model prog w) A (Builtin.SmallTypes.nextOf (.ref it)) Q E s:=by
 cases t with
 | true=>exact aV8 hit hl hx hQ
 | false=>exact wpAny_nextOf_list_item hit hl hx hQ
theorem am9 {it l : Addr} {k : Nat} {xs : Array Value} {Q : Value → Shared → Prop} (hh : A.handled = none) (hit : SIt t s.heap it l k) (hl : SSq t s.heap l xs) (hx : xs[k]? = none)
  (hE : ∀ h' e,Heap.ExtBut it s.heap h' → (∃ o,h'.get? e = some o ∧ o.cls = .type "StopIteration") → E (.ref e) { s with heap:=h' }) : wpAny (model prog w) A (Builtin.SmallTypes.nextOf (.ref it)) Q E s:=by
 cases t with
 | true=>exact bi9 hh hit hl hx hE
 | false=>exact wpAny_nextOf_list_end hh hit hl hx hE
theorem bj0 {z TI TO i1 i2 l1 l2 : Addr} {k1 k2 : Nat} {xs ys : Array Value} {x y a b : Value} {Q : Value → Shared → Prop} (Z : ZipApart z TI TO i1 i2 l1 l2)
  (hz : IsZip s.heap z TI TO .none) (hTI : IsPair s.heap TI (.ref i1) (.ref i2)) (hTO : IsPair s.heap TO a b) (h1 : SIt t1 s.heap i1 l1 k1) (h2 : SIt t2 s.heap i2 l2 k2) (hl1 : SSq t1 s.heap l1 xs) (hl2 : SSq t2 s.heap l2 ys) (hx : xs[k1]? = some x) (hy : ys[k2]? = some y)
  (hQ : ∀ h',IsZip h' z TI TO (rawInt s.heap.objs.size) → IsPair h' TO x y → SIt t1 h' i1 l1 (k1 + 1) → SIt t2 h' i2 l2 (k2 + 1) → IsPair h' s.heap.objs.size x y → h'.objs.size = s.heap.objs.size + 1 →
   (∀ c o,c ≠ z → c ≠ TO → c ≠ i1 → c ≠ i2 → s.heap.get? c = some o → h'.get? c = some o) → Q (.ref s.heap.objs.size) { s with heap:=h' }) :
  wpAny (model prog w) A (Builtin.«zip.__next__» ⟨[.ref z],[]⟩) (fun fin s'=>∃ v,fin = .done (.ret v) ∧ Q v s') E s:=by
 show wpAny _ _ (field (.ref z) 2 >>= _) _ _ _; refine wpAny_bind (wpAny_field hz rfl (x:=.bool false) rfl ?_); show wpAny _ _ (field (.ref z) 3 >>= _) _ _ _; refine wpAny_bind (wpAny_field hz rfl (x:=.ref TI) rfl ?_)
 refine wpAny_bind (wpAny_seqItems hTI rfl ?_); show wpAny _ _ (Builtin.SmallTypes.ownedTupleIsFree (.ref z) >>= _) _ _ _; refine wpAny_bind ?_; unfold Builtin.SmallTypes.ownedTupleIsFree
 refine wpAny_bind (wpAny_field hz rfl (x:=.none) rfl (wpAny_pure ?_)); simp only [if_true]; refine wpAny_bind (wpAny_rule ?_); refine wpAny_bind (wpAny_field hz rfl (x:=.ref TO) rfl ?_)
 refine wpAny_bind (wpAny_setField_rec hz (by simp) fun ha za sa=>?_); have za' : IsZip ha z TI TO .ellipsis:=za
 refine wpAny_bind ?_; simp only [List.zipIdx_cons,List.zipIdx_nil,List.forIn_cons,List.forIn_nil]; refine wpAny_bind (wpAny_bind (wpAny_onRaise ?_)); show wpAny _ _ (Builtin.SmallTypes.nextOf (.ref i1) >>= _) _ _ _
 refine wpAny_bind (ac8 (h1.ext fun o e=>sa.extBut _ _ Z.i1z e) (hl1.ext fun o e=>sa.extBut _ _ Z.l1z e) hx fun hb h1b sb=>wpAny_pure ?_)
 have hTOb : IsPair hb TO a b:=sb.extBut _ _ Z.TOi1 (sa.extBut _ _ Z.TOz hTO)
 refine wpAny_bind (wpAny_seqItems hTOb rfl ?_); refine wpAny_bind (wpAny_updateSeq_pair hTOb fun hcc TOc sc=>?_); have TOc' : IsPair hcc TO x b:=TOc
 refine wpAny_bind (wpAny_letGo (wpAny_pure ?_)); refine wpAny_bind (wpAny_bind (wpAny_onRaise ?_)); show wpAny _ _ (Builtin.SmallTypes.nextOf (.ref i2) >>= _) _ _ _
 refine wpAny_bind (ac8 (((h2.ext fun o e=>sa.extBut _ _ Z.i2z e).ext fun o e=>sb.extBut _ _ Z.i12.symm e).ext fun o e=>sc.extBut _ _ Z.TOi2.symm e) (((hl2.ext fun o e=>sa.extBut _ _ Z.l2z e).ext fun o e=>sb.extBut _ _ Z.l2i1 e).ext fun o e=>sc.extBut _ _ Z.l2TO e) hy fun hd h2d sd=>wpAny_pure ?_)
 have hTOd : IsPair hd TO x b:=sd.extBut _ _ Z.TOi2 TOc'
 refine wpAny_bind (wpAny_seqItems hTOd rfl ?_); refine wpAny_bind (wpAny_updateSeq_pair hTOd fun he TOe se=>?_); have TOe' : IsPair he TO x y:=TOe
 refine wpAny_bind (wpAny_letGo (wpAny_pure (wpAny_pure ?_))); refine wpAny_bind (wpAny_seqItems TOe' rfl ?_); refine wpAny_bind (wpAny_newTuple ?_)
 have sz : he.objs.size = s.heap.objs.size:=by rw [se.1,sd.1,sc.1,sb.1,sa.1]
 have ze : IsZip he z TI TO .ellipsis:=se.extBut _ _ Z.TOz.symm (sd.extBut _ _ Z.i2z.symm (sc.extBut _ _ Z.TOz.symm (sb.extBut _ _ Z.i1z.symm za')))
 have ke : ∀ c o,c ≠ z → c ≠ TO → c ≠ i1 → c ≠ i2 → s.heap.get? c = some o → he.get? c = some o:=fun c o c1 c2 c3 c4 e=>se.extBut _ _ c2 (sd.extBut _ _ c4 (sc.extBut _ _ c2 (sb.extBut _ _ c3 (sa.extBut _ _ c1 e))))
 have h1e : SIt t1 he i1 l1 (k1 + 1):=((h1b.ext fun o e=>sc.extBut _ _ Z.TOi1.symm e).ext fun o e=>sd.extBut _ _ Z.i12 e).ext fun o e=>se.extBut _ _ Z.TOi1.symm e
 have h2e : SIt t2 he i2 l2 (k2 + 1):=h2d.ext fun o e=>se.extBut _ _ Z.TOi2.symm e
 have zlt : z < he.objs.size:=Heap.lt_size ze
 show wpAny _ _ (Builtin.SmallTypes.ownedTupleHandOut (.ref z) (.ref he.objs.size) >>= _) _ _ _; refine wpAny_bind ?_; unfold Builtin.SmallTypes.ownedTupleHandOut
 have zf : IsZip (he.push { cls:=.type "tuple", data:=.seq #[x,y] }) z TI TO .ellipsis:=Heap.get?_push_of_some _ ze
 refine wpAny_bind (wpAny_setField_rec zf (by simp) fun hg zg sg=>?_); have zg' : IsZip hg z TI TO (rawInt he.objs.size):=zg
 refine wpAny_setField_rec zg' (by simp) fun hi zi si=>?_; have zi' : IsZip hi z TI TO (rawInt he.objs.size):=zi
 have up : ∀ c o,c ≠ z → he.get? c = some o → hi.get? c = some o:=fun c o c1 e=>si.extBut _ _ c1 (sg.extBut _ _ c1 (Heap.get?_push_of_some _ e))
 have hT : IsPair hi he.objs.size x y:=si.extBut _ _ (Nat.ne_of_gt zlt) (sg.extBut _ _ (Nat.ne_of_gt zlt) (Heap.get?_push_size _ rfl))
 have szi : hi.objs.size = he.objs.size + 1:=by rw [si.1,sg.1,Heap.size_push]
 rw [sz] at zi' hT szi
 refine wpAny_pure ⟨_,rfl,?_⟩; show Q (.ref he.objs.size) _; rw [sz]
 exact hQ hi zi' (up _ _ Z.TOz TOe') (h1e.ext fun o e=>up _ o Z.i1z e) (h2e.ext fun o e=>up _ o Z.i2z e) hT szi fun c o c1 c2 c3 c4 e=>up c o c1 (ke c o c1 c2 c3 c4 e)
theorem bu0 {z TI TO i1 i2 l1 l2 : Addr} {k1 k2 : Nat} {xs ys : Array Value} {a b : Value} {Q : Fin → Shared → Prop} (hh : A.handled = none) (Z : ZipApart z TI TO i1 i2 l1 l2)
  (hz : IsZip s.heap z TI TO .none) (hTI : IsPair s.heap TI (.ref i1) (.ref i2)) (hTO : IsPair s.heap TO a b) (h1 : SIt t1 s.heap i1 l1 k1) (h2 : SIt t2 s.heap i2 l2 k2) (hl1 : SSq t1 s.heap l1 xs) (hl2 : SSq t2 s.heap l2 ys) (hend : xs[k1]? = none ∨ ys[k2]? = none)
  (hE : ∀ h' e,(∀ c o,c ≠ z → c ≠ TO → c ≠ i1 → c ≠ i2 → s.heap.get? c = some o → h'.get? c = some o) → (∃ o,h'.get? e = some o ∧ o.cls = .type "StopIteration") → E (.ref e) { s with heap:=h' }) :
  wpAny (model prog w) A (Builtin.«zip.__next__» ⟨[.ref z],[]⟩) Q E s:=by
 show wpAny _ _ (field (.ref z) 2 >>= _) _ _ _; refine wpAny_bind (wpAny_field hz rfl (x:=.bool false) rfl ?_); show wpAny _ _ (field (.ref z) 3 >>= _) _ _ _; refine wpAny_bind (wpAny_field hz rfl (x:=.ref TI) rfl ?_)
 refine wpAny_bind (wpAny_seqItems hTI rfl ?_); show wpAny _ _ (Builtin.SmallTypes.ownedTupleIsFree (.ref z) >>= _) _ _ _; refine wpAny_bind ?_; unfold Builtin.SmallTypes.ownedTupleIsFree
 refine wpAny_bind (wpAny_field hz rfl (x:=.none) rfl (wpAny_pure ?_)); simp only [if_true]; refine wpAny_bind (wpAny_rule ?_); refine wpAny_bind (wpAny_field hz rfl (x:=.ref TO) rfl ?_)
 refine wpAny_bind (wpAny_setField_rec hz (by simp) fun ha za sa=>?_); have za' : IsZip ha z TI TO .ellipsis:=za
 refine wpAny_bind ?_; simp only [List.zipIdx_cons,List.zipIdx_nil,List.forIn_cons,List.forIn_nil]; refine wpAny_bind (wpAny_bind (wpAny_onRaise ?_)); show wpAny _ _ (Builtin.SmallTypes.nextOf (.ref i1) >>= _) _ _ _
 cases hx : xs[k1]? with
 | none =>
  refine wpAny_bind (am9 hh (h1.ext fun o e=>sa.extBut _ _ Z.i1z e) (hl1.ext fun o e=>sa.extBut _ _ Z.l1z e) hx fun hb e sb he=>?_)
  obtain ⟨oe,hoe,hce⟩:=he; have zb : IsZip hb z TI TO .ellipsis:=sb _ _ Z.i1z.symm za'; have hez : e ≠ z:=fun q=>by subst q; rw [zb] at hoe; cases hoe; simp at hce
  exact wpAny_setField_rec zb (by simp) fun hcc _ sc=>hE hcc e (fun c o c1 _ c3 _ q=>sc.extBut _ _ c1 (sb _ _ c3 (sa.extBut _ _ c1 q))) ⟨oe,sc.extBut _ _ hez hoe,hce⟩
 | some x =>
  have hy : ys[k2]? = none:=by rcases hend with h | h; rw [hx] at h; cases h; exact h
  refine wpAny_bind (ac8 (h1.ext fun o e=>sa.extBut _ _ Z.i1z e) (hl1.ext fun o e=>sa.extBut _ _ Z.l1z e) hx fun hb h1b sb=>wpAny_pure ?_)
  have hTOb : IsPair hb TO a b:=sb.extBut _ _ Z.TOi1 (sa.extBut _ _ Z.TOz hTO)
  refine wpAny_bind (wpAny_seqItems hTOb rfl ?_); refine wpAny_bind (wpAny_updateSeq_pair hTOb fun hcc TOc sc=>?_)
  refine wpAny_bind (wpAny_letGo (wpAny_pure ?_)); refine wpAny_bind (wpAny_bind (wpAny_onRaise ?_)); show wpAny _ _ (Builtin.SmallTypes.nextOf (.ref i2) >>= _) _ _ _
  refine wpAny_bind (am9 hh (((h2.ext fun o e=>sa.extBut _ _ Z.i2z e).ext fun o e=>sb.extBut _ _ Z.i12.symm e).ext fun o e=>sc.extBut _ _ Z.TOi2.symm e) (((hl2.ext fun o e=>sa.extBut _ _ Z.l2z e).ext fun o e=>sb.extBut _ _ Z.l2i1 e).ext fun o e=>sc.extBut _ _ Z.l2TO e) hy fun hd e sd he=>?_)
  obtain ⟨oe,hoe,hce⟩:=he; have zd : IsZip hd z TI TO .ellipsis:=sd _ _ Z.i2z.symm (sc.extBut _ _ Z.TOz.symm (sb.extBut _ _ Z.i1z.symm za')); have hez : e ≠ z:=fun q=>by subst q; rw [zd] at hoe; cases hoe; simp at hce
  exact wpAny_setField_rec zd (by simp) fun hf _ sf=>hE hf e (fun c o c1 c2 c3 c4 q=>sf.extBut _ _ c1 (sd _ _ c4 (sc.extBut _ _ c2 (sb.extBut _ _ c3 (sa.extBut _ _ c1 q))))) ⟨oe,sf.extBut _ _ hez hoe,hce⟩
theorem aW7 {z TI TO i1 i2 l1 l2 : Addr} {k1 k2 : Nat} {xs ys : Array Value} {x y a b : Value} {Q : Option Value → Shared → Prop} (Z : ZipApart z TI TO i1 i2 l1 l2)
  (hz : IsZip s.heap z TI TO .none) (hTI : IsPair s.heap TI (.ref i1) (.ref i2)) (hTO : IsPair s.heap TO a b) (h1 : SIt t1 s.heap i1 l1 k1) (h2 : SIt t2 s.heap i2 l2 k2) (hl1 : SSq t1 s.heap l1 xs) (hl2 : SSq t2 s.heap l2 ys) (hx : xs[k1]? = some x) (hy : ys[k2]? = some y)
  (hQ : ∀ h',IsZip h' z TI TO (rawInt s.heap.objs.size) → IsPair h' TO x y → SIt t1 h' i1 l1 (k1 + 1) → SIt t2 h' i2 l2 (k2 + 1) → IsPair h' s.heap.objs.size x y → h'.objs.size = s.heap.objs.size + 1 →
   (∀ c o,c ≠ z → c ≠ TO → c ≠ i1 → c ≠ i2 → s.heap.get? c = some o → h'.get? c = some o) → Q (some (.ref s.heap.objs.size)) { s with heap:=h' }) : wpAny (model prog w) A (pyNext (.ref z)) Q E s:=by
 have hT : s.TypeIs (.ref z) "zip" := ⟨_,hz,rfl⟩
 unfold pyNext
 refine wpAny_bind (wpAny_attempt (wpAny_callSpecial?_slot (name:=Str.ofString "__next__") hT F.slot_zip_next (wpAny_call_entry F.slot_zip_next hT F.entry_zip_next (bj0 Z hz hTI hTO h1 h2 hl1 hl2 hx hy ?_) (F.args_zip_next_1 _))))
 exact fun h' a1 a2 a3 a4 a5 a6 a7=>wpAny_pure (hQ h' a1 a2 a3 a4 a5 a6 a7)
theorem bj4 {z TI TO i1 i2 l1 l2 : Addr} {k1 k2 : Nat} {xs ys : Array Value} {a b : Value} {Q : Option Value → Shared → Prop} (hh : A.handled = none) (Z : ZipApart z TI TO i1 i2 l1 l2)
  (hz : IsZip s.heap z TI TO .none) (hTI : IsPair s.heap TI (.ref i1) (.ref i2)) (hTO : IsPair s.heap TO a b) (h1 : SIt t1 s.heap i1 l1 k1) (h2 : SIt t2 s.heap i2 l2 k2) (hl1 : SSq t1 s.heap l1 xs) (hl2 : SSq t2 s.heap l2 ys) (hend : xs[k1]? = none ∨ ys[k2]? = none)
  (hQ : ∀ h',(∀ c o,c ≠ z → c ≠ TO → c ≠ i1 → c ≠ i2 → s.heap.get? c = some o → h'.get? c = some o) → Q none { s with heap:=h' }) : wpAny (model prog w) A (pyNext (.ref z)) Q E s:=by
 have hT : s.TypeIs (.ref z) "zip" := ⟨_,hz,rfl⟩
 unfold pyNext
 refine wpAny_bind (wpAny_attempt (wpAny_callSpecial?_slot (name:=Str.ofString "__next__") hT F.slot_zip_next (wpAny_call_entry F.slot_zip_next hT F.entry_zip_next (bu0 hh Z hz hTI hTO h1 h2 hl1 hl2 hend fun h' e hk he=>?_) (F.args_zip_next_1 _))))
 obtain ⟨o,ho,hc⟩:=he
 exact wpAny_bind (wpAny_isInstance (T := "StopIteration") (b:=true) ⟨o,ho,hc⟩ isSubtype_stop (wpAny_pure (hQ _ hk)))
noncomputable def an8 (t : Bool) (l : Addr) : Obj:={ cls:=.type (if t then "tuple_iterator" else "list_iterator"),data:=.fields #[.ref l,.int 0 0] }
theorem aH5 {h : Heap} {l : Addr} (t : Bool) : SIt t (h.push (an8 t l)) h.objs.size l 0:=by
 cases t with
 | true=>exact ⟨_,Heap.get?_push_size _ rfl,rfl,rfl⟩
 | false=>exact ⟨_,Heap.get?_push_size _ rfl,rfl,rfl⟩
theorem ac9 {l : Addr} {xs : Array Value} {Q : Value → Shared → Prop} (hl : SSq t s.heap l xs) (hQ : Q (.ref s.heap.objs.size) { s with heap:=s.heap.push (an8 t l) }) : wpAny (model prog w) A (pyIter (.ref l)) Q E s:=by
 cases t with
 | true=>exact wpAny_pyIter_tuple hl hQ
 | false=>exact wpAny_pyIter_list hl hQ
end
end G
namespace G
open PySem PySem.Spec PyProof.Rows L2
noncomputable abbrev zp1 (h : Heap) (t1 : Bool) (l1 : Addr) : Heap:=h.push (an8 t1 l1)
noncomputable abbrev zp2 (h : Heap) (t1 t2 : Bool) (l1 l2 : Addr) : Heap:=(zp1 h t1 l1).push (an8 t2 l2)
noncomputable abbrev zp3 (h : Heap) (t1 t2 : Bool) (l1 l2 : Addr) : Heap:=(zp2 h t1 t2 l1 l2).push { cls:=.type "tuple", data:=.seq #[.ref h.objs.size,.ref (zp1 h t1 l1).objs.size] }
noncomputable abbrev zp4 (h : Heap) (t1 t2 : Bool) (l1 l2 : Addr) : Heap:=(zp3 h t1 t2 l1 l2).push { cls:=.type "tuple", data:=.seq #[.none,.none] }
noncomputable abbrev zp5 (h : Heap) (t1 t2 : Bool) (l1 l2 : Addr) : Heap:=(zp4 h t1 t2 l1 l2).push { cls:=.type "zip", data:=.fields #[.none,.bool false,.bool false,.ref (zp2 h t1 t2 l1 l2).objs.size,.ref (zp3 h t1 t2 l1 l2).objs.size] }
theorem bt9 (l1 l2 : Addr) (xs ys : Array Value) (t1 t2 : Bool) :
  Meets (Builtin.«zip.__new__» ⟨[.type "zip", .ref l1,.ref l2],[]⟩) (fun _ R s=>SSq t1 s.heap l1 xs ∧ SSq t2 s.heap l2 ys ∧ ∀ h',IsZip h' (s.heap.objs.size + 4) (s.heap.objs.size + 2) (s.heap.objs.size + 3) .none → IsPair h' (s.heap.objs.size + 2) (.ref s.heap.objs.size) (.ref (s.heap.objs.size + 1)) →
   IsPair h' (s.heap.objs.size + 3) .none .none → SIt t1 h' s.heap.objs.size l1 0 → SIt t2 h' (s.heap.objs.size + 1) l2 0 → (∀ c o,s.heap.get? c = some o → h'.get? c = some o) → R (.ok (.ret (.ref (s.heap.objs.size + 4)))) { s with heap:=h' }) :=
 .of_wp fun prog w A R s h=>by
  obtain ⟨hp,g,d,tk,os⟩:=s
  obtain ⟨hl1,hl2,h⟩:=h
  have hsub:=sub_zip
  have q1 : SSq t1 (Shared.heap ⟨hp,g,d,tk,os⟩) l1 xs:=hl1
  have q2 : SSq t2 (Shared.heap ⟨hp.push (an8 t1 l1),g,d,tk,os⟩) l2 ys:=SSq.ext hl2 fun o e=>Heap.get?_push_of_some _ e
  wp_walk using ac9 q1,ac9 q2
  refine ⟨_,rfl,?_⟩
  have z1 : (zp1 hp t1 l1).objs.size = hp.objs.size + 1:=Heap.size_push ..
  have z2 : (zp2 hp t1 t2 l1 l2).objs.size = hp.objs.size + 2:=by rw [Heap.size_push,z1]
  have z3 : (zp3 hp t1 t2 l1 l2).objs.size = hp.objs.size + 3:=by rw [Heap.size_push,z2]
  have z4 : (zp4 hp t1 t2 l1 l2).objs.size = hp.objs.size + 4:=by rw [Heap.size_push,z3]
  show R (.ok (.ret (.ref (zp4 hp t1 t2 l1 l2).objs.size))) ⟨zp5 hp t1 t2 l1 l2,g,d,tk,os⟩
  rw [z4]
  have g5 : (zp5 hp t1 t2 l1 l2).get? (zp4 hp t1 t2 l1 l2).objs.size = some _:=Heap.get?_push_size _ rfl
  have g4 : (zp5 hp t1 t2 l1 l2).get? (zp3 hp t1 t2 l1 l2).objs.size = some _:=Heap.get?_push_of_some _ (Heap.get?_push_size _ rfl)
  have g3 : (zp5 hp t1 t2 l1 l2).get? (zp2 hp t1 t2 l1 l2).objs.size = some _:=Heap.get?_push_of_some _ (Heap.get?_push_of_some _ (Heap.get?_push_size _ rfl))
  rw [z4,z2,z3] at g5
  rw [z3] at g4
  rw [z2,z1] at g3
  have k1 : ∀ c o,hp.get? c = some o → (zp5 hp t1 t2 l1 l2).get? c = some o:=fun c o e=>Heap.get?_push_of_some _ (Heap.get?_push_of_some _ (Heap.get?_push_of_some _ (Heap.get?_push_of_some _ (Heap.get?_push_of_some _ e))))
  have s1 : SIt t1 (zp5 hp t1 t2 l1 l2) hp.objs.size l1 0:=(aH5 (h:=hp) (l:=l1) t1).ext fun o e=>Heap.get?_push_of_some _ (Heap.get?_push_of_some _ (Heap.get?_push_of_some _ (Heap.get?_push_of_some _ e)))
  have s2 : SIt t2 (zp5 hp t1 t2 l1 l2) (zp1 hp t1 l1).objs.size l2 0:=(aH5 (h:=zp1 hp t1 l1) (l:=l2) t2).ext fun o e=>Heap.get?_push_of_some _ (Heap.get?_push_of_some _ (Heap.get?_push_of_some _ e))
  rw [z1] at s2
  exact h _ g5 g3 g4 s1 s2 k1
section
variable {prog : Program} {w : World} {A : Around} {E : Value → Shared → Prop} {s : Shared} {t1 t2 : Bool}
theorem bj1 {l1 l2 : Addr} {xs ys : Array Value} {Q : Value → Shared → Prop} (hl1 : SSq t1 s.heap l1 xs) (hl2 : SSq t2 s.heap l2 ys)
  (h : ∀ h',IsZip h' (s.heap.objs.size + 4) (s.heap.objs.size + 2) (s.heap.objs.size + 3) .none → IsPair h' (s.heap.objs.size + 2) (.ref s.heap.objs.size) (.ref (s.heap.objs.size + 1)) →
   IsPair h' (s.heap.objs.size + 3) .none .none → SIt t1 h' s.heap.objs.size l1 0 → SIt t2 h' (s.heap.objs.size + 1) l2 0 → (∀ c o,s.heap.get? c = some o → h'.get? c = some o) → Q (.ref (s.heap.objs.size + 4)) { s with heap:=h' }) :
  wpAny (model prog w) A (call (.type "zip") [.ref l1,.ref l2]) Q E s:=by
 refine callType_new F.called_zip (by decide) (F.typeCall_zip_2 _ _) (F.newCall_zip_2 _ _) (fun obj=>F.args_object_init_3 obj _ _) F.entry_zip_new (bt9 l1 l2 xs ys t1 t2) ⟨hl1,hl2,fun h' a1 a2 a3 a4 a5 a6=>?_⟩
 exact ⟨⟨_,a1,rfl⟩,h h' a1 a2 a3 a4 a5 a6⟩
end
noncomputable def Itz (K : PySem.W.Frag) (t1 t2 : Bool) (a1 a2 : Addr) : It :=
  ⟨fun i H=>∃ xs ys x y,Sq K t1 H a1 xs ∧ Sq K t2 H a2 ys ∧ xs[i]? = some x ∧ ys[i]? = some y,
   fun i H v H'=>∃ T x y,v = .ref T ∧ H T = none ∧ H' = upd H T (.tup [x,y]) ∧ (∀ xs,Sq K t1 H a1 xs → xs[i]? = some x) ∧ ∀ ys,Sq K t2 H a2 ys → ys[i]? = some y,
   fun i H=>∃ xs ys,Sq K t1 H a1 xs ∧ Sq K t2 H a2 ys ∧ (xs.length ≤ i ∨ ys.length ≤ i)⟩
theorem aW6 {X : Cx} {pins : List (Addr × Obj)} {σ : L2.St} {H : Hp} {s : Shared} {t : Bool} {a : Addr} {xs ys : List V} (I : Inv X pins σ H s) (h : Sq X.K t H a xs) (h' : Sq X.K t H a ys) : xs = ys:=by
 cases t with
 | true=>exact I.tuple_inj h h'
 | false=>exact I.list_inj h h'
theorem R8 {X : Cx} {pins : List (Addr × Obj)} {σ : L2.St} {H : Hp} {s : Shared} {t : Bool} {a : Addr} {xs : List V} (I : Inv X pins σ H s) (h : Sq X.K t H a xs) : ∃ its : List Value,F6 xs its ∧ SSq t s.heap a its.toArray ∧ a < s.heap.objs.size:=by
 cases t with
 | true =>
  obtain ⟨its,r,p,_⟩:=I.tuple h
  exact ⟨its,r,p,by obtain ⟨o,ho,_⟩:=p; exact Heap.lt_size ho⟩
 | false =>
  obtain ⟨its,r,p,_⟩:=I.list h
  exact ⟨its,r,p.isList,by obtain ⟨o,ho,_⟩:=p.isList; exact Heap.lt_size ho⟩
end G
namespace G
open PySem PySem.Spec PyProof.Rows L2
theorem W4 {X : Cx} {pins : List (Addr × Obj)} {σ : L2.St} {H : Hp} {s : Shared} {h' : Heap} {t' : Nat} {ch : List Addr} {T : Addr} {o : HO} (I : Inv X pins σ H s) (hf : ∀ b ∈ ch,n9 X pins H b) (hT : s.heap.objs.size ≤ T)
  (k : ∀ b u,b ∉ ch → s.heap.get? b = some u → h'.get? b = some u) (new : Z4 X.prog X.w (upd H T o) h' T o) : Inv X pins σ (upd H T o) { s with heap:=h',toks:=t' }:=by
 have hn : H T = none:=I.hok.fresh hT
 have neT : ∀ b u,s.heap.get? b = some u → b ≠ T:=fun b u e=>Nat.ne_of_lt (Nat.lt_of_lt_of_le (Heap.lt_size e) hT)
 have nch : ∀ b u,H b = some u → b ∉ ch:=fun b u e z=>by rw [(hf b z).1] at e; cases e
 refine I.step (g':=s.gens) (d':=s.drawn) (ch:=ch) (fun b hb=>⟨(hf b hb).2.2.2.1,(hf b hb).2.1,(hf b hb).2.2.2.2.1,(hf b hb).2.2.2.2.2⟩) (fun b u _ _ hc e _=>k b u hc e) (fun b u _ _ hc e _=>⟨u.slots,k b u hc e⟩)
  (fun b u _ e n=>by rw [D7 (neT b u e)]; exact n) (fun b u hc e=>⟨u,k b u hc e⟩) (fun b xs e=>by rw [D7 (D8 e hn)]; exact e) (fun b ob u e=>by rw [D7 (D8 e hn)]; exact e)
  (fun b ps e=>⟨#[],by rw [D7 (D8 e hn),e]; simp⟩) (fun m hm=>?_) (fun b u e=>?_) I.bare
 ·obtain ⟨ob,es,ep,ho,r⟩:=hm
  exact ⟨ob,es,ep,k _ ob (fun z=>(hf _ z).2.1 rfl) ho,r⟩
 ·by_cases hb : b = T
  ·subst hb; rw [D6] at e; cases e; exact new
  ·rw [D7 hb] at e
   refine (I.hok b u e).stay (fun c v hc q=>k c v ?_ q) (fun c q=>by rw [D7 (D8 q hn)]; exact q) fun c xs q=>by rw [D7 (D8 q hn)]; exact q
   rcases hc with z | z
   ·rw [z]; exact nch b u e
   ·exact nch c _ z
theorem S4 {X : Cx} {pins : List (Addr × Obj)} {σ : L2.St} {H : Hp} {s : Shared} {h' : Heap} {t' : Nat} {ch : List Addr} (I : Inv X pins σ H s) (hf : ∀ b ∈ ch,n9 X pins H b)
  (k : ∀ b u,b ∉ ch → s.heap.get? b = some u → h'.get? b = some u) : Inv X pins σ H { s with heap:=h',toks:=t' }:=by
 have nch : ∀ b u,H b = some u → b ∉ ch:=fun b u e z=>by rw [(hf b z).1] at e; cases e
 refine I.step (g':=s.gens) (d':=s.drawn) (ch:=ch) (fun b hb=>⟨(hf b hb).2.2.2.1,(hf b hb).2.1,(hf b hb).2.2.2.2.1,(hf b hb).2.2.2.2.2⟩) (fun b u _ _ hc e _=>k b u hc e) (fun b u _ _ hc e _=>⟨u.slots,k b u hc e⟩)
  (fun b u _ e n=>n) (fun b u hc e=>⟨u,k b u hc e⟩) (fun b xs e=>e) (fun b ob u e=>e) (fun b ps e=>⟨#[],by rw [e]; simp⟩) (fun m hm=>?_) (fun b u e=>?_) I.bare
 ·obtain ⟨ob,es,ep,ho,r⟩:=hm
  exact ⟨ob,es,ep,k _ ob (fun z=>(hf _ z).2.1 rfl) ho,r⟩
 ·refine (I.hok b u e).stay (fun c v hc q=>k c v ?_ q) (fun c q=>q) fun c xs q=>q
  rcases hc with z | z
  ·rw [z]; exact nch b u e
  ·exact nch c _ z
theorem bt3 {P : Program} {w : World} {K : PySem.W.Frag} {elts : List Expr} {k0 : Nat} {pos : Pos} {t1 t2 : Bool} {z TI TO i1 i2 a1 a2 : Addr} (Z : ZipApart z TI TO i1 i2 a1 a2) :
  Turn P w K (.Tuple elts k0 pos) (Itz K t1 t2 a1 a2) [z,TI,TO,i1,i2] z (fun i h=>IsZip h z TI TO .none ∧ IsPair h TI (.ref i1) (.ref i2) ∧ (∃ a b,IsPair h TO a b) ∧ SIt t1 h i1 a1 i ∧ SIt t2 h i2 a2 i) where
 mem:=by simp
 obj:=fun i h ⟨hz,hTI,⟨a,b,hTO⟩,h1,h2⟩ c hc=>by
  simp only [List.mem_cons,List.not_mem_nil,or_false] at hc
  rcases hc with rfl | rfl | rfl | rfl | rfl
  ·exact ⟨_,hz,fun v q=>by cases q⟩
  ·exact ⟨_,hTI,fun v q=>by cases q⟩
  ·exact ⟨_,hTO,fun v q=>by cases q⟩
  ·cases t1 with
   | true=>obtain ⟨o,ho,_,hd⟩:=h1; exact ⟨o,ho,fun v q=>by rw [hd] at q; cases q⟩
   | false=>obtain ⟨o,ho,_,hd⟩:=h1; exact ⟨o,ho,fun v q=>by rw [hd] at q; cases q⟩
  ·cases t2 with
   | true=>obtain ⟨o,ho,_,hd⟩:=h2; exact ⟨o,ho,fun v q=>by rw [hd] at q; cases q⟩
   | false=>obtain ⟨o,ho,_,hd⟩:=h2; exact ⟨o,ho,fun v q=>by rw [hd] at q; cases q⟩
 keep:=fun i h h' ⟨hz,hTI,⟨a,b,hTO⟩,h1,h2⟩ hk=>⟨hk z (by simp) _ hz,hk TI (by simp) _ hTI,⟨a,b,hk TO (by simp) _ hTO⟩,h1.ext fun o e=>hk i1 (by simp) o e,h2.ext fun o e=>hk i2 (by simp) o e⟩
 item:=by
  intro X hP hw hK hc i pins s σ H E I hf ⟨hz,hTI,⟨a,b,hTO⟩,h1,h2⟩ hg
  subst hP hw hK
  obtain ⟨xs,ys,x,y,q1,q2,ex,ey⟩:=hg
  obtain ⟨us,r1,p1,lt1⟩:=R8 I q1
  obtain ⟨ws,r2,p2,lt2⟩:=R8 I q2
  obtain ⟨ux,eux,rx⟩:=r1.get ex
  obtain ⟨uy,euy,ry⟩:=r2.get ey
  refine aW7 Z hz hTI hTO h1 h2 p1 p2 (x:=ux) (y:=uy) (by simpa using eux) (by simpa using euy) fun h' b1 b2 b3 b4 b5 b6 b7=>⟨_,rfl,wpAny_letOwnedTupleGo_zip b1 fun h'' c1 c2=>?_⟩
  have neT : ∀ c o,s.heap.get? c = some o → c ≠ s.heap.objs.size:=fun c o e=>Nat.ne_of_lt (Heap.lt_size e)
  have up : ∀ c o,c ≠ z → h'.get? c = some o → h''.get? c = some o:=fun c o n e=>c2.extBut c o n e
  refine ⟨.ref s.heap.objs.size,upd H s.heap.objs.size (.tup [x,y]),W4 (s:=s) (h':=h'') (t':=s.toks) (ch:=[z,TI,TO,i1,i2]) I hf (Nat.le_refl _) (fun c u hc e=>?_) ?_,rfl,⟨_,x,y,rfl,I.hok.fresh (Nat.le_refl _),rfl,fun zs hz'=>by rw [aW6 I hz' q1]; exact ex,fun zs hz'=>by rw [aW6 I hz' q2]; exact ey⟩,⟨c1,?_,⟨_,_,up TO _ Z.TOz b2⟩,b3.ext fun o e=>up i1 o Z.i1z e,b4.ext fun o e=>up i2 o Z.i2z e⟩,fun c hc=>?_⟩
  ·simp only [List.mem_cons,List.not_mem_nil,or_false,not_or] at hc
   exact up c u hc.1 (b7 c u hc.1 hc.2.2.1 hc.2.2.2.1 hc.2.2.2.2 e)
  ·refine ⟨by show 2 ≤ sizeLine; decide,[ux,uy],.cons rx (.cons ry .nil),_,up _ _ ?_ b5,rfl,_,rfl⟩
   exact fun q=>neT z _ hz q.symm
  ·exact up TI _ Z.TIz (b7 TI _ Z.TIz Z.TITO Z.TIi1 Z.TIi2 hTI)
  ·have e : c < s.heap.objs.size:=by
    simp only [List.mem_cons,List.not_mem_nil,or_false] at hc
    rcases hc with rfl | rfl | rfl | rfl | rfl
    ·exact Heap.lt_size hz
    ·exact Heap.lt_size hTI
    ·exact Heap.lt_size hTO
    ·exact h1.lt
    ·exact h2.lt
   rw [D7 (Nat.ne_of_lt e)]
   exact (hf c hc).1
 done:=by
  intro X hP hw hK hc i pins s σ H E I hf ⟨hz,hTI,⟨a,b,hTO⟩,h1,h2⟩ hg
  subst hP hw hK
  obtain ⟨xs,ys,q1,q2,hl⟩:=hg
  obtain ⟨us,r1,p1,lt1⟩:=R8 I q1
  obtain ⟨ws,r2,p2,lt2⟩:=R8 I q2
  have l1:=r1.length
  have l2:=r2.length
  refine bj4 (I.ok.hd hc) Z hz hTI hTO h1 h2 p1 p2 ?_ fun h' hk=>⟨rfl,S4 (t':=s.toks) (ch:=[z,TI,TO,i1,i2]) I hf fun c u hc e=>?_⟩
  ·rcases hl with h | h
   ·left; simp; omega
   ·right; simp; omega
  ·simp only [List.mem_cons,List.not_mem_nil,or_false,not_or] at hc
   exact hk c u hc.1 hc.2.2.1 hc.2.2.2.1 hc.2.2.2.2 e
 self:=fun _ _ _ _ _ st h=>wpAny_pyIter_zip st.1 h
section
variable {X : Cx}
noncomputable def as6 (f g : Rho → Option (Bool × List D)) : Rho → Option (List D):=fun ρ=>(f ρ).bind fun p=>(g ρ).bind fun q=>some ((p.2.zip q.2).map fun (x,y)=>PyData.tuple [x,y])
theorem aV3 {K : PySem.W.Frag} {t1 t2 : Bool} {a1 a2 : Addr} {vs us : List V} {ds es : List D} {Hf1 : Hp} (h1 : Sq K t1 Hf1 a1 vs) (h2 : Sq K t2 Hf1 a2 us) (r1 : Reps K Hf1 ds vs) (r2 : Reps K Hf1 es us) :
  aM6 K (Itz K t1 t2 a1 a2) ((ds.zip es).map fun (x,y)=>PyData.tuple [x,y]) Hf1:=by
 have mono : ∀ {t : Bool} {a : Addr} {xs : List V} {H H' : Hp},F9 H H' → Sq K t H a xs → Sq K t H' a xs:=fun {t a xs H H'} e h=>by
  cases t with
  | true=>exact E2 e h
  | false=>exact G2 e h
 intro i H Hf sa sb
 have m1:=mono (sa.trans sb) h1
 have m2:=mono (sa.trans sb) h2
 have l1:=r1.length
 have l2:=r2.length
 refine ⟨fun hi=>⟨vs,us,m1,m2,?_⟩,fun d hd=>?_⟩
 ·simp at hi; omega
 ·rw [List.getElem?_map] at hd
  obtain ⟨⟨x,y⟩,q1,q2⟩:=Option.map_eq_some_iff.mp hd
  subst q2
  obtain ⟨q1,q2⟩:=List.getElem?_zip_eq_some.mp q1
  obtain ⟨vx,e1,e2⟩:=r1.get q1
  obtain ⟨vy,e3,e4⟩:=r2.get q2
  refine ⟨⟨vs,us,vx,vy,m1,m2,e1,e3⟩,fun v H' ⟨T,x',y',z1,z2,z3,z4,z5⟩=>?_⟩
  subst z1 z3
  have w1:=z4 vs m1
  have w2:=z5 us m2
  rw [e1] at w1
  rw [e3] at w2
  cases w1
  cases w2
  have nf : Hf T = none:=sb.free z2
  refine ⟨upd Hf T (.tup [vx,vy]),Grow.laid sb z2,T,[vx,vy],rfl,SqT.of D6,vx,[vy],rfl,(e2.mono sa).mono (E8 nf),vy,[],rfl,(e4.mono sa).mono (E8 nf),rfl⟩
theorem ch2 {elts : List Expr} {k0 : Nat} {tpos : Pos} {a b : Expr} {f g : DE} {p pos : Pos} (hg : Gl X "zip") (hm : X.mg "zip" = none) (ha : JE X a f) (hb : JE X b g) (hs : starEach [a,b] X.env = [(false,eval a X.env),(false,eval b X.env)]:=by rfl) (hs2 : starEach [b] X.env = [(false,eval b X.env)]:=by rfl) :
  JI X (.Tuple elts k0 tpos) (.Call (.Name "zip" p) [a,b] [] pos) (as6 (qE f) (qE g)):=fun ρ out q=>by
 obtain ⟨⟨t1,ds⟩,e1,q⟩:=xbm q
 obtain ⟨⟨t2,es⟩,e2,q⟩:=xbm q
 cases q
 obtain ⟨d1,e1,e1'⟩:=xbm e1
 obtain ⟨d2,e2,e2'⟩:=xbm e2
 intro pins s σ H R I ⟨H0,Hf,ss,sl,k⟩
 refine Call_ (ae1 I hg hm cl1 (PyProof.Rows.callWith_type1 (thn (E6 (ha ρ d1 e1) (E6 (hb ρ d2 e2) J7 hs2) (by rw [hs,hs2]) pos pins s σ H
  (fun vs H'=>∃ v u Hf',vs = [v,u] ∧ Grow H Hf H' Hf' ∧ Rep X.K Hf' d1 v ∧ Rep X.K Hf' d2 u) I ⟨H0,Hf,ss,sl,fun v H1 Hf1 g1 r1=>⟨H0,Hf1,g1.sub,sl.grow g1,fun u H2 Hf2 g2 r2=>⟨v,u,Hf2,rfl,g1.trans g2,r1.mono g2.ext,r2⟩⟩⟩) fun us s1 ⟨vs,H1,I1,r1,v,u,Hf1,ev,gr,p1,p2⟩=>?_) (by rw [hs,hs2]) (by rw [hs2]; rfl)))
 subst ev
 obtain ⟨uv,uu,rfl,rv,ru⟩:=bd2 r1
 obtain ⟨a1,vs1,rfl,w1,w2⟩:=p1.seq (F9.refl Hf1) e1'
 obtain ⟨a2,vs2,rfl,w3,w4⟩:=p2.seq (F9.refl Hf1) e2'
 cases rv
 cases ru
 have mono : ∀ {t : Bool} {a : Addr} {xs : List V} {H H' : Hp},F9 H H' → Sq X.K t H a xs → Sq X.K t H' a xs:=fun {t a xs H H'} e h=>by
  cases t with
  | true=>exact E2 e h
  | false=>exact G2 e h
 obtain ⟨us1,rr1,hp1,lt1⟩:=R8 I1 (mono gr.sub w1)
 obtain ⟨us2,rr2,hp2,lt2⟩:=R8 I1 (mono gr.sub w3)
 refine bj1 hp1 hp2 fun h' b1 b2 b3 b4 b5 b6=>?_
 have I2 : Inv X pins σ H1 { s1 with heap:=h' }:=I1.kept (t':=s1.toks) b6
 refine wpAny_pyIter_zip b1 ⟨_,_,_,_,H1,rfl,I2,bt3 (zipApart_new lt1 lt2),⟨b1,b2,⟨_,_,b3⟩,b4,b5⟩,fun b hb=>?_,k _ H1 Hf1 gr (aV3 w1 w3 w2 w4)⟩
 have hb' : s1.heap.objs.size ≤ b:=by
  simp only [List.mem_cons,List.not_mem_nil,or_false] at hb
  rcases hb with rfl | rfl | rfl | rfl | rfl
  ·exact Nat.le_add_right _ _
  ·exact Nat.le_add_right _ _
  ·exact Nat.le_add_right _ _
  ·exact Nat.le_refl _
  ·exact Nat.le_add_right _ _
 exact I1.fpOk hb' (I1.hok.fresh hb')
end
end G
namespace G
open PySem PySem.Spec PyProof.Rows L2
theorem at7 : fillsNumberSlot (.type "tuple") "mul" = pure false:=PySem.fillsNumberSlot_seq (id := "tuple.__mul__") (r:=some (.builtin "tuple.__rmul__")) F.slot_tuple_mul.lookup (by decide +kernel) F.slot_tuple_rmul.lookup (by decide +kernel)
theorem aD9 : seqRepeat? (.type "tuple") = pure (some (.builtin "tuple.__mul__")):=by
 unfold seqRepeat?
 rw [PySem.seqSlot_of (T := "tuple") (name := "__mul__") (id := "tuple.__mul__") F.slot_tuple_mul.lookup (by decide +kernel),PySem.seqSlot_of (T := "tuple") (name := "__rmul__") (id := "tuple.__rmul__") F.slot_tuple_rmul.lookup (by decide +kernel)]; rfl
theorem an0 (a : Int) (t : Tok) (l : Addr) (items : Array Value) (n : Nat) (dd : Option Addr) (sl : Array (Option Value)) :
  Meets (Builtin.«int.__rmul__» ⟨[.int a t,.ref l],[]⟩) (fun _ R s=>s.heap.get? l = some ⟨.type "tuple", dd,.seq items n,sl⟩ ∧ R (.ok (.ret Value.notImplemented)) s) :=
 .of_wp fun prog w A R s h=>by obtain ⟨hp,g,d,tk,os⟩:=s; obtain ⟨hl,h⟩:=h; wp_walk; exact ⟨_,rfl,h⟩
theorem aX1 (items : Array Value) (k : Nat) : List.foldl (fun x1 x2=>x1 ++ x2) #[] (List.replicate k items) = (List.replicate k items.toList).flatten.toArray:=by
 have:=aE9 items.toList k []
 rw [List.nil_append] at this
 simpa using this
theorem aQ4 (l : Addr) (items : Array Value) (n : Nat) (dd : Option Addr) (sl : Array (Option Value)) (x : Int) (u : Tok) (h2 : 2 ≤ x) (h3 : x < 1000000) (he : items.isEmpty = false) (hz : items.size * x.toNat ≤ sizeLine) :
  Meets (Builtin.«tuple.__mul__» ⟨[.ref l,.int x u],[]⟩) (fun _ R s=>s.heap.get? l = some ⟨.type "tuple", dd,.seq items n,sl⟩ ∧ R (.ok (.ret (Value.ref s.heap.objs.size))) { s with heap:=s.heap.push { cls:=Value.type "tuple", data:=Data.seq (List.foldl (fun x1 x2=>x1 ++ x2) #[] (List.replicate x.toNat items)) } }) :=
 .of_wp fun prog w A R s h=>by
  obtain ⟨hp,g,d,tk,os⟩:=s
  obtain ⟨hl,h⟩:=h
  have hm : (items.size : Int) * x ≤ 16777216:=by
   have e : ((items.size * x.toNat : Nat) : Int) = (items.size : Int) * x:=by rw [Int.natCast_mul,Int.toNat_of_nonneg (by omega)]
   have : items.size * x.toNat ≤ 16777216:=by rw [← sizeLine_eq]; exact hz
   omega
  wp_walk
  refine wpAny_ite_false (by simp; omega) ?_
  have ht : Heap.IsTuple (Shared.heap ⟨hp,g,d,tk,os⟩) l items:=⟨_,hl,rfl,n,rfl⟩
  refine wpAny_bind (tupleItemsOf_ ht ?_)
  refine wpAny_ite_false (by rw [he]; simp; omega) ?_
  show wpAny _ _ (if (decide (x ≤ 0) || items.isEmpty) = true then _ else _) _ _ _
  refine wpAny_ite_false (by rw [he]; simp; omega) ?_
  show wpAny _ _ (if (items.size : Int) * x > (2 ^ 63 - 1) / 8 then _ else _) _ _ _
  rw [if_neg (by omega)]
  show wpAny _ _ (if Builtin.Tuple.tupleTooMany ((items.size : Int) * x) = true then _ else _) _ _ _
  rw [if_neg (by unfold Builtin.Tuple.tupleTooMany; rw [sizeLine_eq]; simp; omega)]
  refine wpAny_bind (m:=Builtin.Tuple.tupleExact _) (wpAny_newObj_type (wpAny_pure ⟨_,rfl,h⟩) ?_)
  show (List.foldl (fun x1 x2=>x1 ++ x2) #[] (List.replicate x.toNat items)).size ≤ sizeLine
  rw [aX1 items x.toNat,List.size_toArray,aJ7,Array.length_toList,Nat.mul_comm]
  exact hz
section
variable {X : Cx}
theorem bJ4 : OpR X (binaryOp .Mult) (fun x y H Q=>∃ l k xs,x = .ref l ∧ y = .int k ∧ SqT X.K H l xs ∧ xs ≠ [] ∧ 2 ≤ k ∧ k < 1000000 ∧ xs.length * k.toNat ≤ sizeLine ∧ ∀ p,H p = none → Q (.ref p) (upd H p (.tup (List.replicate k.toNat xs).flatten))):=by
 intro pins s σ H x y v u Q I rx ry h
 obtain ⟨l,k,xs,rfl,rfl,hq,hx,h2,h3,hz,q⟩:=h
 cases rx
 obtain ⟨t,rfl⟩:=ry
 obtain ⟨its,r,p1,_⟩:=I.tuple hq
 obtain ⟨⟨cls,dd,data,sl⟩,ho,hc,n,hd⟩:=id p1
 simp only at hc hd
 subst hc hd
 have hl:=r.length
 have he : its.toArray.isEmpty = false:=by
  cases its with
  | nil=>exact absurd (r.nil_iff.mp rfl) hx
  | cons a b=>rfl
 refine wpAny_binaryOp_repeat_ref (T := "tuple") (U := "int") (by decide) ⟨_,ho,rfl⟩ (fun s'=>typeIs_int s' k t) at7 F.fills_int_mul F.slot_int_rmul aD9 F.slot_int_index.lookup
  (call_meets F.slot_int_rmul (typeIs_int s k t) F.entry_int_rmul (F.args_int_rmul_2 _ _) (an0 k t l its.toArray n dd sl) ⟨ho,rfl,⟨_,ho,rfl⟩,
   call_meets F.slot_tuple_mul ⟨_,ho,rfl⟩ F.entry_tuple_mul (F.args_tuple_mul_2 _ _) (aQ4 l its.toArray n dd sl k t h2 h3 he (by rw [List.size_toArray,← hl]; exact hz)) ⟨ho,?_⟩⟩)
 rw [aX1]
 refine ⟨.ref _,_,I.laid (t':=s.toks) (o:=.tup (List.replicate k.toNat xs).flatten) (fun b ob q=>Heap.get?_push_of_some _ q) (Nat.le_refl _) ⟨?_,_,r.rep k.toNat,IsTup.new _ _⟩,rfl,q _ (I.hok.fresh (Nat.le_refl _))⟩
 rw [aJ7,Nat.mul_comm]; exact hz
noncomputable def W9 (x y : D) : Option D:=match x,y with
 | .int i,.int j=>if G5 i ∧ G5 j then some (.int (i * j)) else none
 | .tuple xs,.int k=>if xs.isEmpty = false ∧ 2 ≤ k ∧ k < 1000000 ∧ xs.length * k.toNat ≤ 16777216 then some (.tuple (List.replicate k.toNat xs).flatten) else none
 | _,_=>none
theorem aI7 : OpD X (binaryOp .Mult) W9:=fun x y z h=>by
 unfold W9 at h
 split at h
 ·exact cd0 _ _ z (by unfold ce1; exact h)
 ·split at h
  ·rename_i xs k c
   cases h
   refine OpR.imp bJ4 fun vx vy H Q ⟨Hf,s,r1,r2,kk⟩=>?_
   obtain ⟨a,vs,rfl,h2,h3⟩:=r1
   refine ⟨a,k,vs,rfl,r2,E2 s h2,?_,c.2.1,c.2.2.1,by rw [h3.length,sizeLine_eq]; exact c.2.2.2,fun p hp=>?_⟩
   ·intro e
    subst e
    have:=h3.length
    cases xs with
    | nil=>exact absurd c.1 (by simp)
    | cons a b=>simp at this
   ·exact kk _ _ _ (Grow.laid s hp) ⟨p,_,rfl,SqT.of D6,(h3.flatten k.toNat).mono (E8 (s.free hp))⟩
  ·cases h
 ·cases h
noncomputable def ab3 (f : DE) : DE:=fun ρ=>(f ρ).bind fun d=>match d with
 | .int i=>some (.int (-i))
 | _=>none
theorem bB0 {a : Expr} {f : DE} {pos : Pos} (h : JE X a f) : JE X (.UnaryOp .USub a pos) (ab3 f):=fun ρ d q=>by
 obtain ⟨x,e1,e2⟩:=xbm q
 cases x with
 | int i =>
  cases e2
  exact D4 (cp7 bU4 (h ρ _ e1)) fun σ H Q ⟨H0,Hf,s,sl,k⟩=>⟨H0,Hf,s,sl,fun v H1 Hf1 g1 r1=>⟨_,r1,k _ H1 Hf1 g1 rfl⟩⟩
 | _=>cases e2
noncomputable def isB (x y : D) : Option D:=match y with
 | .bool b=>(match x with
  | .bool c=>some (.bool (c == b))
  | .dict _=>none
  | _=>some (.bool false))
 | .none=>isN x .none
 | _=>none
noncomputable def bK8 (x y : D) : Option D:=match y with
 | .bool b=>(match x with
  | .bool c=>some (.bool (!(c == b)))
  | .dict _=>none
  | _=>some (.bool true))
 | .none=>cd5 x .none
 | _=>none
theorem cq8 : OpD X (compareOp .Is) isB:=fun x y z h=>by
 cases y with
 | none=>exact cd2 x .none z h
 | bool b =>
  intro pins s σ H vx vy v u Q I rx ry ⟨Hf,ss,r1,r2,k⟩
  cases r2
  cases ry
  have fin : ∀ c,z = .bool c → (v == Value.bool b) = c → EP X pins σ Q (.bool (v == Value.bool b)) s:=fun c e1 e2=>by
   rw [e2]; subst e1; exact ⟨.bl c,H,I,rfl,k _ H Hf (Grow.refl ss) rfl⟩
  cases x with
  | none=>cases r1; cases rx; cases h; exact wpAny_is_plain rfl (fin _ rfl rfl)
  | bool c=>cases r1; cases rx; cases h; exact wpAny_is_plain rfl (fin _ rfl (by cases c <;> cases b <;> rfl))
  | int i=>cases r1; obtain ⟨t,rfl⟩:=rx; cases h; exact wpAny_is_plain rfl (fin _ rfl rfl)
  | str i=>cases r1; obtain ⟨t,rfl⟩:=rx; cases h; exact wpAny_is_plain rfl (fin _ rfl rfl)
  | tuple ds=>obtain ⟨a,vs,rfl,_⟩:=r1; cases rx; cases h; exact wpAny_is_plain rfl (fin _ rfl rfl)
  | list ds=>obtain ⟨a,vs,rfl,_⟩:=r1; cases rx; cases h; exact wpAny_is_plain rfl (fin _ rfl rfl)
  | dict ds=>cases h
 | _=>cases h
theorem bx1 : OpD X (compareOp .IsNot) bK8:=fun x y z h=>by
 cases y with
 | none=>exact bK3 x .none z h
 | bool b =>
  intro pins s σ H vx vy v u Q I rx ry ⟨Hf,ss,r1,r2,k⟩
  cases r2
  cases ry
  have fin : ∀ c,z = .bool c → (!(v == Value.bool b)) = c → EP X pins σ Q (.bool (!(v == Value.bool b))) s:=fun c e1 e2=>by
   rw [e2]; subst e1; exact ⟨.bl c,H,I,rfl,k _ H Hf (Grow.refl ss) rfl⟩
  cases x with
  | none=>cases r1; cases rx; cases h; exact wpAny_isNot_plain rfl (fin _ rfl rfl)
  | bool c=>cases r1; cases rx; cases h; exact wpAny_isNot_plain rfl (fin _ rfl (by cases c <;> cases b <;> rfl))
  | int i=>cases r1; obtain ⟨t,rfl⟩:=rx; cases h; exact wpAny_isNot_plain rfl (fin _ rfl rfl)
  | str i=>cases r1; obtain ⟨t,rfl⟩:=rx; cases h; exact wpAny_isNot_plain rfl (fin _ rfl rfl)
  | tuple ds=>obtain ⟨a,vs,rfl,_⟩:=r1; cases rx; cases h; exact wpAny_isNot_plain rfl (fin _ rfl rfl)
  | list ds=>obtain ⟨a,vs,rfl,_⟩:=r1; cases rx; cases h; exact wpAny_isNot_plain rfl (fin _ rfl rfl)
  | dict ds=>cases h
 | _=>cases h
noncomputable def aV1 (K : PySem.W.Frag) (d : D) (u : Value) : Prop:=∃ v,K8 v u ∧ ∀ H : Hp,Rep K H d v
theorem ci8 {x : Str} {d : D} {u : Value} {pos : Pos} (r : aV1 X.K d u) (hg : Gl X x) (hm : X.mg x = some u) (hd : (x == ("__debug__" : Str)) = false:=by decide) : JE X (.Name x pos) (dC d):=fun ρ d' q=>by
 cases q
 obtain ⟨v,rv,rp⟩:=r
 exact D4 (bJ0 hg hm rv hd) fun σ H Q ⟨H0,Hf,s,sl,k⟩=>k _ H Hf (Grow.refl s) (rp Hf)
noncomputable def qN (f : Rho → Option (List D)) : Rho → Option (Bool × List D):=fun ρ=>(f ρ).map fun ds=>(false,ds)
theorem cg9 {e : Expr} {f : Rho → Option (List D)} (h : JN X e f) : JQ X e (qN f):=bA3 h
noncomputable def N6 (f : Rho → Option (Bool × List D)) : DE:=fun ρ=>(f ρ).bind fun q=>if q.1 = true then none else some (.tuple q.2)
theorem bN9 {e : Expr} {f : Rho → Option (Bool × List D)} {p pos : Pos} (hg : Gl X "tuple") (hm : X.mg "tuple" = none) (h : JQ X e f) (he : starEach [e] X.env = [(false,eval e X.env)]:=by rfl) : JE X (.Call (.Name "tuple" p) [e] [] pos) (N6 f):=bA7 hg hm h (he:=he)
end
end G
namespace G
open PySem PySem.Spec PyProof.Rows L2
theorem bs5 (l b : Addr) (items items2 : Array Value) (n n2 : Nat) (dd dd2 : Option Addr) (sl sl2 : Array (Option Value)) (hz : items.size + items2.size ≤ sizeLine) :
  Meets (Builtin.«list.__add__» ⟨[.ref l,.ref b],[]⟩) (fun _ R s=>s.heap.get? l = some ⟨.type "list", dd,.seq items n,sl⟩ ∧ s.heap.get? b = some ⟨.type "list", dd2,.seq items2 n2,sl2⟩ ∧ R (.ok (.ret (Value.ref s.heap.objs.size))) { s with heap:=s.heap.push { cls:=Value.type "list", data:=Data.seq (items ++ items2) } }) :=
 .of_wp fun prog w A R s h=>by
  obtain ⟨hp,g,d,tk,os⟩:=s
  obtain ⟨hl,hb,h⟩:=h
  have hsub : isSubtype (.type "list") (.type "list") = pure true:=by rw [isSubtype_type]; kernel_rfl
  have hsz:=hz
  wp_walk
  exact ⟨_,rfl,h⟩
section
variable {X : Cx}
theorem bf1 : OpR X (binaryOp .Add) (fun x y H Q=>∃ a b xs ys,x = .ref a ∧ y = .ref b ∧ SqL X.K H a xs ∧ SqL X.K H b ys ∧ xs.length + ys.length ≤ sizeLine ∧ ∀ p,H p = none → Q (.ref p) (upd H p (.lst (xs ++ ys)))):=by
 intro pins s σ H x y v u Q I rx ry h
 obtain ⟨a,b,xs,ys,rfl,rfl,ha,hb,hz,q⟩:=h
 cases rx
 cases ry
 obtain ⟨its,r1,p1,_⟩:=I.list ha
 obtain ⟨its2,r2,p2,_⟩:=I.list hb
 obtain ⟨⟨cls,dd,data,sl⟩,ho,hc,n,hd⟩:=p1.isList
 obtain ⟨⟨cls2,dd2,data2,sl2⟩,ho2,hc2,n2,hd2⟩:=p2.isList
 simp only at hc hd hc2 hd2
 subst hc hd hc2 hd2
 have l1:=r1.length
 have l2:=r2.length
 refine concat_meets ⟨_,ho,rfl⟩ ⟨_,ho2,rfl⟩ noFill_list_add seq_list_add PySem.F.slot_list_add PySem.F.entry_list_add (PySem.F.args_list_add_2 _ _) (bs5 a b its.toArray its2.toArray n n2 dd dd2 sl sl2 (by simp only [List.size_toArray]; omega)) ⟨ho,ho2,?_⟩
 have ea : its.toArray ++ its2.toArray = (its ++ its2).toArray:=by simp
 rw [ea]
 exact ⟨.ref _,_,I.lnew (t':=s.toks) (r1.append r2) (by rw [List.length_append]; omega),rfl,q _ I.fresh⟩
noncomputable def C5 (x y : D) : Option D:=match x,y with
 | .list xs,.list ys=>if xs.length + ys.length ≤ 16777216 then some (.list (xs ++ ys)) else none
 | x,y=>T3 x y
theorem bK5 : OpD X (binaryOp .Add) C5:=fun x y z h=>by
 unfold C5 at h
 split at h
 ·split at h
  ·rename_i c
   cases h
   refine OpR.imp bf1 fun vx vy H Q ⟨Hf,s,r1,r2,k⟩=>?_
   obtain ⟨a,vs,rfl,h2,h3⟩:=r1
   obtain ⟨b,us,rfl,h5,h6⟩:=r2
   refine ⟨a,b,vs,us,rfl,rfl,G2 s h2,G2 s h5,by rw [h3.length,h6.length,sizeLine_eq]; exact c,fun p hp=>?_⟩
   exact k _ _ _ (Grow.laid s hp) ⟨p,vs ++ us,rfl,SqL.of D6,(h3.append h6).mono (E8 (s.free hp))⟩
  ·cases h
 ·exact bx2 _ _ z h
noncomputable def bh0 (f : DE) : DE:=fun ρ=>(f ρ).bind fun d=>match d with
 | .tuple xs=>some (.tuple xs.reverse)
 | _=>none
end
end G
namespace G
theorem xg0 {α : Type} {a : α} {l : List α} : (a :: l)[0]? = some a:=rfl
theorem xg1 {α : Type} {a : α} {i : Nat} {l : List α} : (a :: l)[i + 1]? = l[i]?:=rfl
theorem xw0 {α : Type} {a b : α} {l : List α} : (a :: l).set 0 b = b :: l:=rfl
theorem xw1 {α : Type} {a b : α} {i : Nat} {l : List α} : (a :: l).set (i + 1) b = a :: l.set i b:=rfl
theorem xbs {α β : Type} {a : α} {f : α → Option β} : (some a).bind f = f a:=rfl
theorem xms {α β : Type} {a : α} {f : α → β} : (some a).map f = some (f a):=rfl
theorem xca {α : Type} {a : α} {l m : List α} : (a :: l) ++ m = a :: (l ++ m):=rfl
theorem xna {α : Type} {l : List α} : [] ++ l = l:=rfl
theorem xmc {α β : Type} {f : α → β} {a : α} {l : List α} : (a :: l).map f = f a :: l.map f:=rfl
theorem xmn {α β : Type} {f : α → β} : [].map f = []:=rfl
theorem xnf : (!false) = true:=rfl
theorem xnt : (!true) = false:=rfl
theorem xft : (false = true) = False:=by simp
end G
local macro_rules
  | `(‹$x›)=>`(some (G.B.val $x))
noncomputable section
namespace Sh
open PySem PySem.Spec PyProof.Rows L2 G
def at5 : DS:=(B4 (w9 (tB2 neD (A6 1) (dC (.int 0))) (B4 (D3 2 (B0 P3 (A6 0) (A6 1))) (B4 (D3 0 (A6 1)) (D3 1 (A6 2))))) (B5 (A6 0)))
def L1 : List D → Option D:=F8 at5 3
def X8 : DS:=(B4 (D3 2 (A9 L1 (A5 (A6 0) (A5 (A6 1) A7)))) (B5 (C2 (A5 (B0 T8 (A6 0) (A6 2)) (A5 (B0 T8 (A6 1) (A6 2)) A7)))))
def ap5 : List D → Option D:=F8 X8 3
def X9 : DS:=(B5 (B0 leI (B0 W9 (dIx (B1 0) (dC (.int 0))) (dIx (B1 1) (dC (.int 1)))) (B0 W9 (dIx (B1 1) (dC (.int 0))) (dIx (B1 0) (dC (.int 1))))))
def Y0 : List D → Option D:=F8 X9 2
def av9 : DS:=(B5 (A9 ap5 (A5 (B0 W9 (dIx (B1 0) (dC (.int 0))) (dIx (B1 1) (dC (.int 0)))) (A5 (B0 W9 (dIx (B1 0) (dC (.int 1))) (dIx (B1 1) (dC (.int 1)))) A7))))
def bR0 : List D → Option D:=F8 av9 2
def aA8 : DS:=(B4 (sIf (tB2 eqD (A6 0) (E4 A7)) (B5 (B0 W9 (dC (.int 7)) (A6 1))) C7) (B5 (B0 T3 (dIx (B1 0) (B0 P3 (A6 1) (E5 (B1 0)))) (B0 W9 (dC (.int 6553)) (B0 T8 (A6 1) (E5 (B1 0)))))))
def ap6 : List D → Option D:=F8 aA8 2
def aG7 : DS:=(B4 (D3 3 (B0 P3 (B0 T3 (B0 W9 (B0 P3 (A9 ap6 (A5 (A6 0) (A5 (A6 1) A7))) (dC (.int 2147483563))) (dC (.int 69069))) (B0 W9 (dC (.int 104723)) (B0 T3 (A6 1) (dC (.int 1))))) (dC (.int 2147483563)))) (B4 (D3 3 (B0 P3 (B0 T3 (B0 W9 (A6 3) (A6 3)) (B0 T8 (A6 3) (dC (.int 3)))) (dC (.int 2147483399)))) (B5 (B0 P3 (B0 T8 (B0 P3 (B0 T3 (B0 W9 (A6 3) (A6 3)) (B0 T8 (A6 3) (dC (.int 7)))) (dC (.int 2147483647))) (dC (.int 11))) (A6 2)))))
def B3 : List D → Option D:=F8 aG7 4
def ap3 : DS:=(B4 (D3 2 (A6 0)) (B4 (D3 3 (A6 1)) (B4 (w9 (tB2 gtI (A6 2) (dC (.int 0))) (bv0 2 3 (A5 (B0 P3 (A6 3) (A6 2)) (A5 (A6 2) A7)))) (B5 (C2 (A5 (B0 T8 (A6 0) (A6 3)) (A5 (B0 T8 (A6 1) (A6 3)) A7)))))))
def Z9 : List D → Option D:=F8 ap3 4
def aG3 : DS:=(B5 (A9 Z9 (A5 (B0 W9 (dIx (B1 0) (dC (.int 0))) (dIx (B1 1) (dC (.int 0)))) (A5 (B0 W9 (dIx (B1 0) (dC (.int 1))) (dIx (B1 1) (dC (.int 1)))) A7))))
def ah8 : List D → Option D:=F8 aG3 2
def aG4 : DS:=(B4 (D3 2 (B0 T3 (dC (.int 1)) (A9 B3 (A5 (A6 0) (A5 (A6 1) (A5 (dC (.int 12)) A7)))))) (B4 (D3 3 (A9 Z9 (A5 (A9 B3 (A5 (A6 0) (A5 (B0 T3 (A6 1) (dC (.int 1))) (A5 (B0 T3 (A6 2) (dC (.int 1))) A7)))) (A5 (A6 2) A7)))) (B5 (dIx (qN (A5 (A6 3) (A5 (A6 3) (A5 (A6 3) (A5 (C2 (A5 (dC (.int 0)) (A5 (dC (.int 1)) A7))) (A5 (C2 (A5 (dC (.int 1)) (A5 (dC (.int 1)) A7))) A7)))))) (A9 B3 (A5 (A6 0) (A5 (B0 T3 (A6 1) (dC (.int 2))) (A5 (dC (.int 5)) A7))))))))
def L0 : List D → Option D:=F8 aG4 4
def aV2 : DS:=(B4 (D3 2 (A9 L0 (A5 (A6 0) (A5 (A6 1) A7)))) (B5 (B0 T3 (C2 (A5 (A6 2) A7)) (N6 (qN (D2 1 [2,0,1] (K0 (dC (.int 3))) (C9 0) F7 (A9 ah8 (A5 (A6 1) (A5 (A9 L0 (A5 (A6 2) (A5 (B0 T3 (B0 T3 (A6 3) (dC (.int 3))) (B0 W9 (dC (.int 3)) (A6 0))) A7))) A7)))))))))
def Z8 : List D → Option D:=F8 aV2 3
def aM9 : DS:=(B5 (G9 (D5 "int" (A6 0)) (ab2 (D5 "bool" (A6 0)))))
def C8 : List D → Option D:=F8 aM9 1
def O8 : DS:=(B4 (sIf (D0 (B6 (C3 (D5 "tuple" (A6 0)))) (D0 (tB2 neD (E5 (B1 0)) (dC (.int 2))) (D0 (B6 (C3 (A9 C8 (A5 (dIx (B1 0) (dC (.int 0))) A7)))) (B6 (C3 (A9 C8 (A5 (dIx (B1 0) (dC (.int 1))) A7))))))) (B5 (dC (.bool false))) C7) (B5 (G9 (B0 gtI (dIx (B1 0) (dC (.int 1))) (dC (.int 0))) (G9 (D9 leI leI (dC (.int 0)) (dIx (B1 0) (dC (.int 0))) (dIx (B1 0) (dC (.int 1)))) (B0 eqD (A9 Z9 (A5 (dIx (B1 0) (dC (.int 0))) (A5 (dIx (B1 0) (dC (.int 1))) A7))) (A6 0))))))
def E7 : List D → Option D:=F8 O8 1
def k6 : DS:=(B4 (sIf (D0 (B6 (C3 (D5 "tuple" (A6 0)))) (D0 (tB2 neD (E5 (B1 0)) (dC (.int 4))) (tB2 neD (E4 (D2 1 [] (F0 (A6 0)) (C9 0) (B6 (C3 (A9 E7 (A5 (A6 0) A7)))) (A6 0))) (E4 A7)))) (B5 (dC (.bool false))) C7) (B5 (B0 eqD (E4 (D2 1 [0] (F0 (A6 0)) (C9 0) (tB2 gtI (B0 W9 (dIx (B1 0) (dC (.int 0))) (dIx (qE (dIx (B1 1) (dC (.int 0)))) (dC (.int 1)))) (B0 W9 (dIx (qE (dIx (B1 1) (dC (.int 0)))) (dC (.int 0))) (dIx (B1 0) (dC (.int 1))))) (A6 0))) (E4 A7))))
def M3 : List D → Option D:=F8 k6 1
def bd0 : DS:=(B5 (G9 (D5 "int" (A6 0)) (ab2 (D5 "bool" (A6 0)))))
def L7 : List D → Option D:=F8 bd0 1
def S5 : DS:=(B4 (sIf (D0 (B6 (C3 (D5 "tuple" (A6 0)))) (tB2 neD (E5 (B1 0)) (dC (.int 2)))) (B5 (dC (.bool false))) C7) (B4 (D3 1 (dIx (B1 0) (dC (.int 0)))) (B4 (D3 2 (dIx (B1 0) (dC (.int 1)))) (B4 (sIf (D0 (B6 (C3 (A9 L7 (A5 (A6 1) A7)))) (B6 (C3 (A9 L7 (A5 (A6 2) A7))))) (B5 (dC (.bool false))) C7) (B5 (G9 (B0 gtI (A6 2) (dC (.int 0))) (G9 (D9 leI leI (dC (.int 0)) (A6 1) (A6 2)) (B0 eqD (A9 L1 (A5 (A6 1) (A5 (A6 2) A7))) (dC (.int 1))))))))))
def G1 : List D → Option D:=F8 S5 3
def ah2 : DS:=(B4 (sIf (D0 (B6 (C3 (D5 "tuple" (A6 0)))) (tB2 neD (E5 (B1 0)) (dC (.int 4)))) (B5 (dC (.bool false))) C7) (B4 (sIf (B6 (C3 (U6 (qN (D2 1 [] (F0 (A6 0)) (C9 0) F7 (A9 G1 (A5 (A6 0) A7))))))) (B5 (dC (.bool false))) C7) (B5 (U6 (qN (D2 1 [0] (F0 (r6 (A6 0) (E3 (dC (.int 1))) J8)) (C9 0) F7 (A9 Y0 (A5 (A6 0) (A5 (dIx (B1 1) (dC (.int 0))) A7)))))))))
def P1 : List D → Option D:=F8 ah2 1
end Sh
namespace G
open PySem PySem.Spec PyProof.Rows L2
section
variable {prog : Program} {w : World} {A : Around} {E : Value → Shared → Prop} {s : Shared}
theorem bc7 (n : Nat) : Builtin.Slice.sliceAdjust none none (-1) (n : Int) = ((n : Int) - 1,-1):=by
 unfold Builtin.Slice.sliceAdjust
 have h1 : (-1 : Int) < 0:=by omega
 simp only [h1,if_true]
theorem aX2 (n : Nat) : Builtin.Slice.slicePlaces ((n : Int) - 1) (-1) (-1) = n:=by
 unfold Builtin.Slice.slicePlaces
 have h1 : ¬ (-1 : Int) > 0:=by omega
 have h2 : -(-1 : Int) = 1:=by omega
 simp only [h1,if_false,h2,Int.ediv_one]
 split <;> omega
theorem aq0 {sl : Addr} {t : Tok} {n : Nat} {Q : Int × Int × Nat → Shared → Prop} (hs : s.heap.IsSliceOf sl .none .none (.int (-1) t))
  (h : Q ((n : Int) - 1,-1,n) s) : wpAny (model prog w) A (Builtin.Slice.sliceApplied (.ref sl) (pure (n : Int))) Q E s:=by
 obtain ⟨os,hos,hcs,hds⟩:=id hs
 unfold Builtin.Slice.sliceApplied Builtin.Slice.sliceFields
 refine wpAny_bind (wpAny_bind (wpAny_field hos hds (x:=.none) rfl (wpAny_bind (wpAny_field hos hds (x:=.none) rfl (wpAny_bind (wpAny_field hos hds (x:=.int (-1) t) rfl (wpAny_pure ?_)))))))
 refine wpAny_bind (slicePart_int ?_)
 show wpAny _ _ (if ((-1 : Int) == 0) = true then _ else _) _ _ s
 rw [if_neg (by decide)]
 refine wpAny_bind (slicePart_none (wpAny_bind (slicePart_none (wpAny_bind (wpAny_pure ?_)))))
 show wpAny _ _ (match Builtin.Slice.sliceAdjust none none (-1) (n : Int) with | (lo,hi)=>pure (lo,(-1 : Int),Builtin.Slice.slicePlaces lo hi (-1))) _ _ s
 rw [bc7 n]
 show wpAny _ _ (pure ((n : Int) - 1,(-1 : Int),Builtin.Slice.slicePlaces ((n : Int) - 1) (-1) (-1))) _ _ s
 rw [aX2]
 exact wpAny_pure h
theorem aO9 {α : Type} : ∀ l : List α,(List.range l.length).filterMap (fun k=>l[k]?) = l
 | []=>rfl
 | a :: l=>by
  rw [List.length_cons,List.range_succ_eq_map,List.filterMap_cons,List.filterMap_map]
  simp only [xg0]
  congr 1
  exact aO9 l
theorem aS2 {α β : Type} {f g : α → Option β} : ∀ {l : List α},(∀ x ∈ l,f x = g x) → l.filterMap f = l.filterMap g
 | [],_=>rfl
 | a :: l,h=>by rw [List.filterMap_cons,List.filterMap_cons,h a (List.mem_cons_self ..),aS2 fun x hx=>h x (List.mem_cons_of_mem _ hx)]
theorem bw1 (xs : Array Value) : ((List.range xs.size).filterMap fun (k : Nat)=>xs[(((xs.size : Int) - 1) + (k : Int) * -1).toNat]?).toArray = xs.toList.reverse.toArray:=by
 congr 1
 have e : ∀ k ∈ List.range xs.size,xs[(((xs.size : Int) - 1) + (k : Int) * -1).toNat]? = xs.toList.reverse[k]?:=by
  intro k hk
  have hk:=List.mem_range.mp hk
  have : (((xs.size : Int) - 1) + (k : Int) * -1).toNat = xs.size - 1 - k:=by omega
  rw [this,List.getElem?_reverse (by rw [Array.length_toList]; exact hk),Array.length_toList,Array.getElem?_toList]
 rw [aS2 e]
 have:=aO9 xs.toList.reverse
 rw [List.length_reverse,Array.length_toList] at this
 exact this
theorem ao1 {t sl : Addr} {items : Array Value} {k : Tok} {Q : Value → Shared → Prop} (ht : IsTup s.heap t items) (hs : s.heap.IsSliceOf sl .none .none (.int (-1) k))
  (h : Q (.ref s.heap.objs.size) { s with heap:=s.heap.push { cls:=.type "tuple", data:=.seq items.toList.reverse.toArray } })
  (hsz : items.size ≤ sizeLine) : wpAny (model prog w) A (getItem (.ref t) (.ref sl)) Q E s:=by
 have htake : sizeOk (.seq items.toList.reverse.toArray):=by
  show items.toList.reverse.toArray.size ≤ sizeLine
  rw [List.size_toArray,List.length_reverse,Array.length_toList]
  omega
 obtain ⟨os,hos,hcs,hds⟩:=id hs
 have hTs : s.TypeIs (.ref sl) "slice" := ⟨os,hos,hcs⟩
 unfold getItem
 try with_reducible refine wpAny_holding ?_
 first | refine wpAny_bind (wpAny_pure ?_) | skip
 refine wpAny_bind (wpAny_sequenceKey ht.typeIs (by decide) ?_)
 refine wpAny_bind (wpAny_callSpecial?_slot (name:=Str.ofString "__getitem__") ht.typeIs PyProof.Rows.slot_tuple_getitem
  (wpAny_call_entry PyProof.Rows.slot_tuple_getitem ht.typeIs entry_tuple_getitem ?_ (args_tuple_getitem _ _)))
 show wpAny _ _ (Builtin.Tuple.tupleItemsOf (.ref t) >>= _) _ _ s
 refine wpAny_bind (tupleItemsOf_ ht ?_)
 refine wpAny_bind (wpAny_typeOf hTs ?_)
 rw [if_pos (by decide)]
 refine wpAny_bind (aq0 hs ?_)
 have hno : ¬ ((((items.size : Int) - 1) == 0 && (-1 : Int) == 1 && items.size == items.size) = true):=by
  have : ((-1 : Int) == 1) = false:=rfl
  rw [this]; simp
 show wpAny _ _ (if (((items.size : Int) - 1) == 0 && (-1 : Int) == 1 && items.size == items.size) = true then _ else _) _ _ s
 rw [if_neg hno,bw1]
 first
  | exact wpAny_bind (m:=Builtin.Tuple.tupleExact _) (wpAny_newObj_type (wpAny_pure ⟨_,rfl,wpAny_pure h⟩) htake)
  | exact wpAny_bind (m:=Builtin.Tuple.tupleExact _) (wpAny_newObj_type (wpAny_bind (wpAny_pure (wpAny_pure ⟨_,rfl,wpAny_pure h⟩))) htake)
  | exact wpAny_bind (wpAny_bind (m:=Builtin.Tuple.tupleExact _) (wpAny_newObj_type (wpAny_pure (wpAny_pure ⟨_,rfl,wpAny_pure h⟩)) htake))
  | exact wpAny_bind (wpAny_bind (m:=Builtin.Tuple.tupleExact _) (wpAny_newObj_type (wpAny_pure ⟨_,rfl,wpAny_pure h⟩) htake))
end
section
variable {X : Cx} {e st : Expr} {te ts : TE} {p2 pos : Pos}
theorem aN6 : ∀ {xs : List V} {us : List Value},F6 xs us → F6 xs.reverse us.reverse
 | [],[],h=>h
 | x :: xs,u :: us,h=>by
  cases h with
  | cons a b=>rw [List.reverse_cons,List.reverse_cons]; exact (aN6 b).append (.cons a .nil)
theorem cb6 (he : PE X e te) (hs : PE X st ts) : PE X (.Subscript e (.Slice none none (some st) p2) pos)
  (fun σ H Q=>te σ H fun x H1=>ts σ H1 fun y H2=>∃ a xs,x = .ref a ∧ y = .int (-1) ∧ SqT X.K H2 a xs ∧ ∀ p,H2 p = none → Q (.ref p) (upd H2 p (.tup xs.reverse))):=by
 intro pins s σ H Q I h
 refine Subscript_ (thn (he pins s σ H _ I h) fun v s1 ⟨x,H1,I1,r1,q1⟩=>?_)
 refine wpAny_Slice ?_
 rw [evalPart_none]
 refine wpAny_pure (wpAny_pure ?_)
 rw [evalPart_some]
 refine thn (hs pins s1 σ H1 _ I1 q1) fun vs s3 ⟨y,H3,I3,r3,a,xs,e1,e2,hx,q⟩=>?_
 subst e1 e2
 cases r1
 obtain ⟨tk,rfl⟩:=r3
 have I4 : Inv X pins σ H3 { s3 with heap:=s3.heap.push { cls:=.type "slice", data:=.fields #[.none,.none,.int (-1) tk] } }:=I3.kept (t':=s3.toks) fun b ob q=>Heap.get?_push_of_some _ q
 obtain ⟨its,r,ht,hz⟩:=I4.tuple hx
 have hlen : its.toArray.size = xs.length:=by rw [List.size_toArray]; exact r.length.symm
 show wpAny (model X.prog X.w) X.A (subscriptTail e (.Slice none none (some st) p2) (.ref a) (.ref s3.heap.objs.size)) (EP X pins σ Q) X.xe { s3 with heap:=s3.heap.push { cls:=.type "slice", data:=.fields #[.none,.none,.int (-1) tk] } }
 refine tail_any (ops:=[.ref a,.ref s3.heap.objs.size]) ht.typeIs PyProof.Rows.slot_tuple_getitem.lookup ?_ (by with_unfolding_all rfl)
 refine ao1 ht (Heap.IsSliceOf.new ..) ?_ (by rw [hlen]; exact hz)
 refine ⟨.ref _,_,I4.laid (t':=s3.toks) (o:=.tup xs.reverse) (fun b ob q=>Heap.get?_push_of_some _ q) (Nat.le_refl _) ?_,rfl,q _ (I4.hok.fresh (Nat.le_refl _))⟩
 exact ⟨by rw [List.length_reverse]; exact hz,_,aN6 r,IsTup.new _ _⟩
theorem bv3 {K : PySem.W.Frag} {H : Hp} {ds : List D} {vs : List V} (h : Reps K H ds vs) : Reps K H ds.reverse vs.reverse:=by
 induction ds generalizing vs with
 | nil=>cases vs with
  | nil=>exact h
  | cons _ _=>exact absurd h.length (by simp)
 | cons d ds ih=>cases vs with
  | nil=>exact absurd h.length (by simp)
  | cons v vs =>
   obtain ⟨v',r',e,h1,h2⟩:=h
   cases e
   rw [List.reverse_cons,List.reverse_cons]
   exact (ih h2).append ⟨_,_,rfl,h1,rfl⟩
theorem bO0 {a st : Expr} {f : DE} {pos p2 : Pos} (ha : JE X a f) (hs : JE X st (ab3 (dC (.int 1)))) : JE X (.Subscript a (.Slice none none (some st) p2) pos) (bh0 f):=fun ρ d q=>by
 obtain ⟨x,e1,q⟩:=Option.bind_eq_some_iff.mp q
 cases x with
 | tuple xs =>
  cases q
  refine D4 (cb6 (ha ρ _ e1) (hs ρ (.int (-1)) rfl)) fun σ H Q ⟨H0,Hf,s,sl,k⟩=>?_
  refine ⟨H0,Hf,s,sl,fun v H1 Hf1 g1 ⟨p,vs,q1,q2,q3⟩=>⟨H0,Hf1,g1.sub,sl.grow g1,fun u H2 Hf2 g2 r2=>?_⟩⟩
  subst q1
  cases r2
  have q2':=E2 g2.ext q2
  have q3':=q3.mono g2.ext
  refine ⟨p,vs,rfl,rfl,E2 g2.sub q2',fun p' hp=>?_⟩
  exact k _ _ _ ((g1.trans g2).trans (Grow.laid g2.sub hp)) ⟨p',_,rfl,SqT.of D6,(bv3 q3').mono (E8 (g2.sub.free hp))⟩
 | _=>cases q
end
end G
namespace Sh
open PySem PySem.Spec PyProof.Rows L2 G
def bh8 : DS:=(B4 (D3 1 (E4 (A5 (ab3 (dC (.int 1))) (A5 (dC (.int 0)) (A5 (dC (.int 1)) (A5 (dC (.int 2)) (A5 (dC (.int 10)) (A5 (dC (.bool true)) (A5 (dC (.bool false)) (A5 (dC .none) (A5 (dC (.str "")) (A5 (dC (.str "a")) (A5 (dC (.str "over")) (A5 (dC (.str "Ab")) (A5 (C2 A7) (A5 (E4 A7) (A5 (C2 (A5 (dC (.int 0)) (A5 (dC (.int 1)) A7))) (A5 (C2 (A5 (dC (.int 1)) (A5 (dC (.int 1)) A7))) (A5 (C2 (A5 (dC (.int 1)) (A5 (dC (.int 2)) A7))) (A5 (C2 (A5 (dC (.int 2)) (A5 (dC (.int 2)) A7))) (A5 (C2 (A5 (dC (.int 2)) (A5 (dC (.int 1)) A7))) A7))))))))))))))))))))) (B4 (D3 1 (B0 C5 (A6 1) (E4 (A5 (C2 (A5 (dC (.str "a")) A7)) (A5 (E4 (A5 (dC (.int 0)) (A5 (dC (.int 1)) A7))) (A5 (dC (.str "abcdefg")) (A5 (C2 (A5 (ab3 (dC (.int 1))) (A5 (dC (.int 1)) A7))) (A5 (C2 (A5 (dC (.int 1)) (A5 (dC (.int 0)) A7))) (A5 (B0 W9 (C2 (A5 (C2 (A5 (dC (.int 0)) (A5 (dC (.int 1)) A7))) A7)) (dC (.int 4))) (A5 (C2 (A5 (dC (.str "tone")) (A5 (dC (.str "zz")) (A5 (dC (.str "grey")) (A5 (C2 (A5 (dC (.int 1)) (A5 (dC (.int 1)) A7))) (A5 (dC (.bool true)) A7)))))) A7)))))))))) (B5 (dIx (B1 1) (B0 P3 (A6 0) (dC (.int 26)))))))
def aw1 : List D → Option D:=F8 bh8 2
def G0 (self : List D → Option D) : DS:=(B4 (sIf (M9 (tB2 gtI (A6 2) (dC (.int 0))) (M9 (C3 (D5 "tuple" (A6 0))) (M9 (tB2 gtI (E5 (B1 0)) (dC (.int 0))) (tB2 gtI (B0 P3 (A6 1) (dC (.int 7))) (dC (.int 0)))))) (B4 (D3 3 (B0 P3 (B0 T8 (A6 1) (dC (.int 7))) (E5 (B1 0)))) (B4 (D3 4 (A9 self (A5 (dIx (B1 0) (A6 3)) (A5 (B0 T8 (A6 1) (dC (.int 91))) (A5 (B0 aj5 (A6 2) (dC (.int 1))) A7))))) (B5 (B0 T3 (B0 T3 (r6 (A6 0) J8 (E3 (A6 3))) (C2 (A5 (A6 4) A7))) (r6 (A6 0) (E3 (B0 T3 (A6 3) (dC (.int 1)))) J8))))) C7) (B4 (sIf (M9 (C3 (D5 "tuple" (A6 0))) (M9 (tB2 gtI (E5 (B1 0)) (dC (.int 0))) (tB2 eqD (B0 P3 (B0 T8 (A6 1) (dC (.int 7))) (dC (.int 2))) (dC (.int 0))))) (B5 (dIx (qN (A5 (E4 (fun ρ=>((B1 0) ρ).map fun q=>q.2)) (A5 (r6 (A6 0) J8 (E3 (ab3 (dC (.int 1))))) (A5 (B0 T3 (A6 0) (r6 (A6 0) (E3 (ab3 (dC (.int 1)))) J8)) (A5 (r6 (A6 0) (E3 (dC (.int 1))) J8) (A5 (bh0 (A6 0)) (A5 (B0 W9 (A6 0) (dC (.int 2))) A7))))))) (B0 P3 (B0 T8 (A6 1) (dC (.int 14))) (dC (.int 6))))) C7) (B4 (sIf (M9 (C3 (D5 "int" (A6 0))) (tB2 eqD (B0 P3 (B0 T8 (A6 1) (dC (.int 7))) (dC (.int 2))) (dC (.int 0)))) (B5 (dIx (qN (A5 (ba7 (A6 0)) (A5 (B0 aj5 (dC (.int 0)) (A6 0)) (A5 (B0 T3 (A6 0) (dC (.int 1))) (A5 (B0 eqD (A6 0) (dC (.int 1))) (A5 (B0 aj5 (A6 0) (dC (.int 1))) (A5 (B0 T3 (A6 0) (dC (.int 9))) A7))))))) (B0 P3 (B0 T8 (A6 1) (dC (.int 14))) (dC (.int 6))))) C7) (B5 (A9 aw1 (A5 (B0 T8 (A6 1) (dC (.int 7))) A7))))))
def F4 : Nat → List D → Option D
 | 0=>fun _=>none
 | k + 1=>F8 (G0 (F4 k)) 5
end Sh
namespace G
open PySem PySem.Spec PyProof.Rows L2
section
variable {X : Cx}
def atS (x : Str) (i : Int) : Option D:=if x.length ≤ 16777216 then (atI x.cps.toList i).map fun c=>.str ⟨#[c]⟩ else none
def ac0 (f g : DE) : DE:=fun ρ=>(f ρ).bind fun x=>(g ρ).bind fun i=>match x,i with
 | .str x,.int i=>atS x i
 | _,_=>none
theorem ci5 {a b : Expr} {f g : DE} {pos : Pos} (ha : JE X a f) (hb : JE X b g) (hs : av8 b:=by intro _ _; rfl) : JE X (.Subscript a b pos) (ac0 f g):=fun ρ d q=>by
 obtain ⟨x,h1,q⟩:=Option.bind_eq_some_iff.mp q
 obtain ⟨y,h2,h3⟩:=Option.bind_eq_some_iff.mp q
 split at h3
 ·rename_i x i
  unfold atS at h3
  split at h3
  ·rename_i hz
   obtain ⟨c,e1,e2⟩:=Option.map_eq_some_iff.mp h3
   subst e2
   refine D4 (bS2 bB6 (ha ρ _ h1) (hb ρ _ h2) hs) fun σ H Q ⟨H0,Hf,s,sl,k⟩=>?_
   refine ⟨H0,Hf,s,sl,fun v H1 Hf1 g1 r1=>⟨H0,Hf1,g1.sub,sl.grow g1,fun u H2 Hf2 g2 r2=>?_⟩⟩
   exact .inr (.inr ⟨x,i,c,r1,r2,by rw [sizeLine_eq]; exact hz,e1,k _ H2 Hf2 (g1.trans g2) rfl⟩)
  ·cases h3
 ·cases h3
def al6 (f : DE) (lo hi : Rho → Option (Option Int)) : DE:=fun ρ=>(f ρ).bind fun d=>(lo ρ).bind fun l=>(hi ρ).bind fun h=>match d with
 | .tuple xs=>some (.tuple (P5 xs l h))
 | .list xs=>some (.list (P5 xs l h))
 | _=>none
theorem ci1 {a : Expr} {lo hi : Option Expr} {f : DE} {l h : Rho → Option (Option Int)} {pos p2 : Pos} (ha : JE X a f) (hl : JO X lo l) (hh : JO X hi h) : JE X (.Subscript a (.Slice lo hi none p2) pos) (al6 f l h):=fun ρ d q=>by
 obtain ⟨x,e1,q⟩:=Option.bind_eq_some_iff.mp q
 obtain ⟨y,e2,q⟩:=Option.bind_eq_some_iff.mp q
 obtain ⟨z,e3,q⟩:=Option.bind_eq_some_iff.mp q
 cases x with
 | tuple xs =>
  cases q
  refine bA9 ha hl hh ρ _ ?_
  unfold r6
  rw [e1,xbs,e2,xbs,e3,xbs]
 | list xs =>
  cases q
  refine D4 (an4 be2 (ha ρ _ e1) (hl ρ y e2) (hh ρ z e3)) fun σ H Q ⟨H0,Hf,s,sl,k⟩=>?_
  refine ⟨H0,Hf,s,sl,fun v H1 Hf1 g1 ⟨p,vs,q1,q2,q3⟩=>⟨H0,Hf1,g1.sub,sl.grow g1,fun H2 Hf2 g2=>⟨H0,Hf2,g2.sub,sl.grow (g1.trans g2),fun H3 Hf3 g3=>?_⟩⟩⟩
  subst q1
  have q2':=G2 (g2.trans g3).ext q2
  have q3':=q3.mono (g2.trans g3).ext
  refine ⟨p,vs,rfl,G2 g3.sub q2',fun p' hp=>?_⟩
  exact k _ _ _ (((g1.trans g2).trans g3).trans (Grow.laid g3.sub hp)) ⟨p',_,rfl,SqL.of D6,(ax4 q3' y z).mono (E8 (g3.sub.free hp))⟩
 | _=>cases q
end
end G
namespace G
open PySem PySem.Spec PyProof.Rows L2
section
variable {X : Cx}
theorem bd4 : ∀ {ys : List Str} {us : List Value},F6 (ys.map V.str) us → ∃ l : List (Str × Tok),us = strValues l ∧ l.map (·.1) = ys
 | [],[],_=>⟨[],rfl,rfl⟩
 | y :: ys,u :: us,h=>by
  cases h with
  | cons a b =>
   obtain ⟨t,rfl⟩:=a
   obtain ⟨l,rfl,rfl⟩:=bd4 b
   exact ⟨(y,t) :: l,rfl,rfl⟩
def an7 (sep : Str) (ys : List Str) : Nat:=ys.toArray.foldl (fun n y=>n + y.length + sep.length) 0
def cp0 (K : PySem.W.Frag) : V → List V → Hp → VK → Prop:=fun x vs H Q=>∃ sep p ys,x = .str sep ∧ vs = [.ref p] ∧ SqL K H p (ys.map V.str) ∧ an7 sep ys ≤ sizeLine ∧ (Builtin.Str.glued sep ys).length ≤ sizeLine ∧ Q (.str (Builtin.Str.glued sep ys)) H
theorem bL5 : MtR X "str.join" (cp0 X.K):=by
 intro pins s σ H x vs v us Q I rx rv h
 obtain ⟨sep,p,ys,rfl,rfl,hq,hz,hg,q⟩:=h
 obtain ⟨t,rfl⟩:=rx
 obtain ⟨u,rfl,ru⟩:=rv.one
 cases ru
 obtain ⟨its,r,pl,_⟩:=I.list hq
 obtain ⟨l,rfl,rfl⟩:=bd4 r
 refine call_meets F.slot_str_join (typeIs_str s sep t) F.entry_str_join (F.args_str_join_2 _ _) (meets_str_join_list sep t p l ?_) ⟨pl.isList,?_⟩
 ·show decide (an7 sep (l.map (·.1)) > sizeLine) = false
  exact decide_eq_false (by omega)
 ·match l,q,hg with
  | [],q,hg=>exact ⟨hg,.str _,H,I.tok _,⟨_,rfl⟩,q⟩
  | [a],q,_=>exact ⟨.str _,H,I,⟨_,rfl⟩,q⟩
  | a :: b :: r,q,hg=>exact ⟨hg,.str _,H,I.tok _,⟨_,rfl⟩,q⟩
def aD4 : List D → Option (List Str)
 | []=>some []
 | .str x :: r=>(aD4 r).map fun ys=>x :: ys
 | _ :: _=>none
theorem ar8 {K : PySem.W.Frag} {H : Hp} : ∀ {ds : List D} {ys : List Str} {vs : List V},aD4 ds = some ys → Reps K H ds vs → vs = ys.map V.str
 | [],ys,vs,h,r=>by cases h; exact r
 | .str x :: ds,ys,vs,h,r=>by
  obtain ⟨zs,e1,e2⟩:=Option.map_eq_some_iff.mp h
  subst e2
  obtain ⟨v,r',e,h1,h2⟩:=r
  subst e
  rw [ar8 e1 h2]
  cases h1
  rfl
def az7 (f : DE) (g : Rho → Option (Bool × List D)) : DE:=fun ρ=>(f ρ).bind fun s=>(g ρ).bind fun q=>match s with
 | .str sep=>if q.1 = true then none else (aD4 q.2).bind fun ys=>if an7 sep ys ≤ 16777216 ∧ (Builtin.Str.glued sep ys).length ≤ 16777216 then some (.str (Builtin.Str.glued sep ys)) else none
 | _=>none
theorem bO6 {o e : Expr} {f : DE} {g : Rho → Option (Bool × List D)} {apos cpos : Pos} (ho : JE X o f) (h : JQ X e g)
  (hbase : attributeBase o "join" X.env (eval o X.env) = eval o X.env:=by rfl)
  (hfew : ((backTo cpos (starEach [e] X.env)).all (fun x=>!x.1) && (backToKw cpos (keywordEach [] X.env)).all (fun x=>x.1.isSome)
   && decide (([e] : List Expr).length + ([] : List Keyword).length + (if ([] : List Keyword).isEmpty then 0 else 1) < 30)) = true:=by rfl)
  (hline : (apos.endLine == cpos.line) = true:=by rfl) (hs : starEach [e] X.env = [(false,eval e X.env)]:=by rfl) :
  JE X (.Call (.Attribute o "join" apos) [e] [] cpos) (az7 f g):=fun ρ d q=>by
 obtain ⟨s,e1,q⟩:=Option.bind_eq_some_iff.mp q
 obtain ⟨⟨t,ds⟩,e2,q⟩:=Option.bind_eq_some_iff.mp q
 cases s with
 | str sep =>
  cases t with
  | true=>simp at q
  | false =>
   simp only [xft,if_false] at q
   obtain ⟨ys,e3,q⟩:=Option.bind_eq_some_iff.mp q
   split at q
   ·rename_i hz
    cases q
    refine D4 (be9 F.plainAttrs_str F.slot_str_join F.type_str_join bL5 (ho ρ _ e1) (E6 (h ρ false ds e2) J7 hs) hbase hfew hline hs) fun σ H Q ⟨H0,Hf,s,sl,k⟩=>?_
    refine ⟨H0,Hf,s,sl,fun v H1 Hf1 g1 r1=>?_⟩
    cases r1
    refine ⟨rfl,H0,Hf1,g1.sub,sl.grow g1,fun w H2 Hf2 g2 ⟨p,vs,z1,z2,z3⟩=>?_⟩
    subst z1
    rw [ar8 e3 z3] at z2
    exact ⟨sep,p,ys,rfl,rfl,z2,by rw [sizeLine_eq]; exact hz.1,by rw [sizeLine_eq]; exact hz.2,k _ H2 Hf2 (g1.trans g2) rfl⟩
   ·cases q
 | _=>cases q
end
end G
namespace G
open PySem PySem.Spec PyProof.Rows L2
section
variable {X : Cx}
def R7 : D → Bool
 | .none=>true
 | .bool _=>true
 | .int _=>true
 | .str _=>true
 | _=>false
def toV : D → V
 | .none=>.non
 | .bool b=>.bl b
 | .int i=>.int i
 | .str x=>.str x
 | _=>.non
theorem p6 {K : PySem.W.Frag} {H : Hp} {d : D} {v : V} (f : R7 d = true) (r : Rep K H d v) : v = toV d ∧ aj3 v = true:=by
 cases d with
 | none=>cases r; exact ⟨rfl,rfl⟩
 | bool b=>cases r; exact ⟨rfl,rfl⟩
 | int i=>cases r; exact ⟨rfl,rfl⟩
 | str x=>cases r; exact ⟨rfl,rfl⟩
 | tuple _=>cases f
 | list _=>cases f
 | dict _=>cases f
theorem as0 {K : PySem.W.Frag} {H : Hp} : ∀ {ds : List D} {vs : List V},ds.all R7 = true → Reps K H ds vs → vs = ds.map toV ∧ vs.all aj3 = true
 | [],vs,_,r=>by cases (show vs = [] from r); exact ⟨rfl,rfl⟩
 | d :: ds,vs,f,r=>by
  rw [List.all_cons,Bool.and_eq_true] at f
  obtain ⟨v,r',e,h1,h2⟩:=r
  subst e
  obtain ⟨e1,e2⟩:=p6 f.1 h1
  obtain ⟨e3,e4⟩:=as0 f.2 h2
  subst e1 e3
  exact ⟨rfl,by rw [List.all_cons,e2,e4]; rfl⟩
def isS : D → Bool
 | .str _=>true
 | _=>false
def inD (neg : Bool) (x y : D) : Option D:=match y with
 | .list ds=>if R7 x = true ∧ ds.all R7 = true then some (.bool (if neg then !inV (toV x) (ds.map toV) else inV (toV x) (ds.map toV))) else none
 | .tuple ds=>if R7 x = true ∧ ds.all R7 = true then some (.bool (if neg then !inV (toV x) (ds.map toV) else inV (toV x) (ds.map toV))) else if R7 x = false ∧ SeqAt.shaped x = true ∧ ds.all isS = true then some (.bool neg) else none
 | _=>none
theorem bP3 {A : Around} {s : Shared} {x : D} {v : Value} {as : List Addr} (f : R7 x = false) (sh : SeqAt.shaped x = true) (r : Reads s.heap v x as) (hu : A.units < cLine) (a : Str) (t : Tok) : SeqAt.EqAt A s (.str a t) v false:=by
 cases r with
 | none=>cases f
 | bool _=>cases f
 | int _ _=>cases f
 | str _ _=>cases f
 | list h1 h2 h3 _=>exact SeqAt.EqAt.str_list a t ⟨_,h1,h2,_,h3⟩ hu
 | tuple h1 h2 h3 _=>exact SeqAt.EqAt.str_tuple a t ⟨_,h1,h2,_,h3⟩ hu
 | dict _ _ _ _ _=>exact absurd (SeqAt.canLay_of_shaped sh) (by simp [PyData.canLay0])
theorem aS3 {K : PySem.W.Frag} {H : Hp} : ∀ {ds : List D} {vs : List V} {us : List Value},ds.all isS = true → Reps K H ds vs → F6 vs us → ∀ y ∈ us,∃ a t,y = Value.str a t
 | [],_,_,_,r,w=>by cases (show _ = [] from r); cases w; intro y hy; cases hy
 | d :: ds,_,_,f,r,w=>by
  rw [List.all_cons,Bool.and_eq_true] at f
  obtain ⟨v,r',rfl,h1,h2⟩:=r
  cases w with
  | cons w1 w2 =>
   intro y hy
   rcases List.mem_cons.mp hy with rfl | hy
   ·cases d with
    | str a =>
     cases (show v = .str a from h1)
     obtain ⟨t,e⟩:=w1
     exact ⟨a,t,e⟩
    | _=>cases f.1
   ·exact aS3 f.2 h2 w2 y hy
theorem bB7 {x : D} {ds : List D} {vx vy : V} {v u : Value} {pins : List (Addr × Obj)} {s : Shared} {σ : L2.St} {H Hf : Hp} {Q : Value → Shared → Prop} (hu : X.A.units + 64 < cLine) (f : R7 x = false) (sh : SeqAt.shaped x = true) (a : ds.all isS = true) (I : L2.Inv X pins σ H s) (rx : K8 vx v) (ry : K8 vy u) (ss : F9 Hf H) (r1 : Rep X.K Hf x vx) (r2 : Rep X.K Hf (.tuple ds) vy) :
  (Q (.bool false) s → wpAny (model X.prog X.w) X.A (compareOp .In v u) Q X.xe s) ∧ (Q (.bool true) s → wpAny (model X.prog X.w) X.A (compareOp .NotIn v u) Q X.xe s):=by
 obtain ⟨p,vs,rfl,h2,h3⟩:=r2
 obtain rfl : u = Value.ref p:=ry
 obtain ⟨its,rv,pl,_⟩:=I.tuple (E2 ss h2)
 obtain ⟨as,rd⟩:=Rep.reads I (r1.mono ss) rx
 have st:=aS3 a h3 rv
 have he : ∀ y,y ∈ its.toArray → SeqAt.EqAt X.A.in1 s y v ((fun _=>false) y):=fun y hy=>by
  obtain ⟨b,t,rfl⟩:=st y (by simpa using hy)
  exact bP3 f sh rd (by show X.A.units + 1 < _; omega) b t
 have no : its.toArray.any (fun _=>false) = false:=by simp
 refine ⟨fun q=>SeqAt.in_tupleAt (fun _=>false) pl he (by rw [no]; exact q),fun q=>SeqAt.notIn_tupleAt (fun _=>false) pl he (by rw [no]; exact q)⟩
theorem bB8 {op : CmpOp} {neg : Bool} (o : OpR X (compareOp op) (rIn X.K neg)) (o2 : ∀ x ds,R7 x = false → SeqAt.shaped x = true → ds.all isS = true → OpR X (compareOp op) (fun vx vy H Q=>∃ Hf,F9 Hf H ∧ Rep X.K Hf x vx ∧ Rep X.K Hf (.tuple ds) vy ∧ ∀ v H' Hf',Grow H Hf H' Hf' → Rep X.K Hf' (.bool neg) v → Q v H')) : OpD X (compareOp op) (inD neg):=fun x y z h=>by
 unfold inD at h
 split at h
 ·split at h
  ·rename_i c
   cases h
   refine OpR.imp o fun vx vy H Q ⟨Hf,s,r1,r2,k⟩=>?_
   obtain ⟨p,vs,rfl,h2,h3⟩:=r2
   obtain ⟨e1,e2⟩:=p6 c.1 r1
   obtain ⟨e3,e4⟩:=as0 c.2 h3
   subst e1 e3
   exact ⟨p,_,rfl,.inl (G2 s h2),e2,e4,k _ H Hf (Grow.refl s) rfl⟩
  ·cases h
 ·split at h
  ·rename_i c
   cases h
   refine OpR.imp o fun vx vy H Q ⟨Hf,s,r1,r2,k⟩=>?_
   obtain ⟨p,vs,rfl,h2,h3⟩:=r2
   obtain ⟨e1,e2⟩:=p6 c.1 r1
   obtain ⟨e3,e4⟩:=as0 c.2 h3
   subst e1 e3
   exact ⟨p,_,rfl,.inr (E2 s h2),e2,e4,k _ H Hf (Grow.refl s) rfl⟩
  ·split at h
   ·rename_i c
    cases h
    exact o2 _ _ c.1 c.2.1 c.2.2
   ·cases h
 ·cases h
theorem cq9 (hu : X.A.units + 64 < cLine) : OpD X (compareOp .In) (inD false):=bB8 bk5 fun x ds f sh a pins s σ H vx vy v u Q I rx ry ⟨Hf,ss,r1,r2,k⟩=>(bB7 hu f sh a I rx ry ss r1 r2).1 ⟨.bl false,H,I,rfl,k _ H Hf (Grow.refl ss) rfl⟩
theorem bx0 (hu : X.A.units + 64 < cLine) : OpD X (compareOp .NotIn) (inD true):=bB8 aI6 fun x ds f sh a pins s σ H vx vy v u Q I rx ry ⟨Hf,ss,r1,r2,k⟩=>(bB7 hu f sh a I rx ry ss r1 r2).2 ⟨.bl true,H,I,rfl,k _ H Hf (Grow.refl ss) rfl⟩
theorem av2 (neg : Bool) (x : Str) (ys : List Str) : inD neg (.str x) (.tuple (ys.map PyData.str)) = some (.bool (if neg then !(ys.any fun y=>y == x) else ys.any fun y=>y == x)):=by
 have f : (ys.map PyData.str).all R7 = true:=by
  rw [List.all_eq_true]
  intro d hd
  obtain ⟨y,_,rfl⟩:=List.mem_map.mp hd
  rfl
 show (if R7 (.str x) = true ∧ (ys.map PyData.str).all R7 = true then _ else none) = _
 rw [if_pos ⟨rfl,f⟩]
 have : inV (toV (.str x)) ((ys.map PyData.str).map toV) = ys.any fun y=>y == x:=by
  unfold inV
  rw [List.map_map,List.any_map]
  rfl
 rw [this]
end
end G
namespace G
open PySem PySem.Spec PyProof.Rows L2
section
variable {X : Cx}
theorem bF2 : bootBuiltins "min" = some (.builtin "min"):=by decide +kernel
theorem bF3 : bootBuiltins "max" = some (.builtin "max"):=by decide +kernel
theorem cl5 : bootBuiltins "abs" = some (.builtin "abs"):=by decide +kernel
def bT4 (f g : DE) : DE:=fun ρ=>(f ρ).bind fun x=>(g ρ).bind fun y=>match x,y with
 | .int i,.int j=>some (.int (if j < i then j else i))
 | _,_=>none
def bT6 (f g : DE) : DE:=fun ρ=>(f ρ).bind fun x=>(g ρ).bind fun y=>match x,y with
 | .int i,.int j=>some (.int (if j > i then j else i))
 | _,_=>none
def ct7 (f : DE) : DE:=fun ρ=>(f ρ).bind fun x=>match x with
 | .int i=>some (.int (if i < 0 then -i else i))
 | _=>none
theorem cj2 {e : Expr} {f : DE} {p pos : Pos} (hg : Gl X "abs") (hm : X.mg "abs" = none) (h : JE X e f) (he : starEach [e] X.env = [(false,eval e X.env)]:=by rfl) : JE X (.Call (.Name "abs" p) [e] [] pos) (ct7 f):=fun ρ d q=>by
 obtain ⟨x,h1,h2⟩:=Option.bind_eq_some_iff.mp q
 split at h2
 ·cases h2
  exact D4 (P8 bF0 hg hm cl5 (E6 (h ρ _ h1) J7 he) (he:=he)) fun σ H Q ⟨H0,Hf,s,sl,k⟩ =>
   ⟨H0,Hf,s,sl,fun v H1 Hf1 g1 r=>⟨_,by rw [show v = _ from r],k _ H1 Hf1 g1 rfl⟩⟩
 ·cases h2
theorem bO2 {e e' : Expr} {f g : DE} {p pos : Pos} (hg : Gl X "min") (hm : X.mg "min" = none) (h : JE X e f) (h' : JE X e' g) (hc : X.calm = true:=by rfl) (he : starEach [e,e'] X.env = (false,eval e X.env) :: starEach [e'] X.env:=by rfl) (he' : starEach [e'] X.env = [(false,eval e' X.env)]:=by rfl)
  (hpl : (backTo pos (starEach [e'] X.env)).any (·.1) = false:=by rfl) : JE X (.Call (.Name "min" p) [e,e'] [] pos) (bT4 f g):=fun ρ d q=>by
 obtain ⟨x,h1,q⟩:=Option.bind_eq_some_iff.mp q
 obtain ⟨y,h2,h3⟩:=Option.bind_eq_some_iff.mp q
 split at h3
 ·cases h3
  exact D4 (P8 (bq1 hc) hg hm bF2 (E6 (h ρ _ h1) (E6 (h' ρ _ h2) J7 he') he) (he:=he) (hpl:=hpl)) fun σ H Q ⟨H0,Hf,s,sl,k⟩ =>
   ⟨H0,Hf,s,sl,fun v H1 Hf1 g1 r=>⟨H0,Hf1,g1.sub,sl.grow g1,fun w H2 Hf2 g2 r2=>⟨_,_,by rw [show v = _ from r,show w = _ from r2],k _ H2 Hf2 (g1.trans g2) rfl⟩⟩⟩
 ·cases h3
theorem bO4 {e e' : Expr} {f g : DE} {p pos : Pos} (hg : Gl X "max") (hm : X.mg "max" = none) (h : JE X e f) (h' : JE X e' g) (hc : X.calm = true:=by rfl) (he : starEach [e,e'] X.env = (false,eval e X.env) :: starEach [e'] X.env:=by rfl) (he' : starEach [e'] X.env = [(false,eval e' X.env)]:=by rfl)
  (hpl : (backTo pos (starEach [e'] X.env)).any (·.1) = false:=by rfl) : JE X (.Call (.Name "max" p) [e,e'] [] pos) (bT6 f g):=fun ρ d q=>by
 obtain ⟨x,h1,q⟩:=Option.bind_eq_some_iff.mp q
 obtain ⟨y,h2,h3⟩:=Option.bind_eq_some_iff.mp q
 split at h3
 ·cases h3
  exact D4 (P8 (bq3 hc) hg hm bF3 (E6 (h ρ _ h1) (E6 (h' ρ _ h2) J7 he') he) (he:=he) (hpl:=hpl)) fun σ H Q ⟨H0,Hf,s,sl,k⟩ =>
   ⟨H0,Hf,s,sl,fun v H1 Hf1 g1 r=>⟨H0,Hf1,g1.sub,sl.grow g1,fun w H2 Hf2 g2 r2=>⟨_,_,by rw [show v = _ from r,show w = _ from r2],k _ H2 Hf2 (g1.trans g2) rfl⟩⟩⟩
 ·cases h3
theorem bB5 {k : Nat} {f : Addr} {fd : FuncData} {ps : List Str} {F : List D → Option D} {x : Str} {p pos : Pos} (Fk : FnOk X.prog X.w X.K X.mg X.base CX0 k f fd ps (spF X.K 0 F)) (hr : Room k X.A) (hg : Gl X x) (hm : X.mg x = some (.ref f)) (hk : PySem.W.keepIn X.K (.ref f) = true) (hb : k7 X.K fd ps [])
  (hdb : (x == ("__debug__" : Str)) = false:=by decide) : JE X (.Call (.Name x p) [] [] pos) (A9 F A7):=fun ρ d q=>by
 have h2 : F [] = some d:=q
 refine D4 (bw4 Fk hr hg hm hk hb .nil bS3 hdb) fun σ H Q ⟨H0,Hf,s,sl,kk⟩=>?_
 exact ⟨rfl,Hf,[],d,s,rfl,h2,fun v H2 Hf2 g2 r2=>kk v H2 Hf2 g2 r2⟩
end
end G
namespace G
open PySem PySem.Spec PyProof.Rows L2
def aG1 (K : PySem.W.Frag) : List D → List Value → Prop
 | [],us=>us = []
 | d :: ds,us=>∃ u r,us = u :: r ∧ aV1 K d u ∧ aG1 K ds r
section
variable {K : PySem.W.Frag}
theorem aE3 : aG1 K [] []:=rfl
theorem O2 {d : D} {ds : List D} {u : Value} {us : List Value} (h : aV1 K d u) (t : aG1 K ds us) : aG1 K (d :: ds) (u :: us):=⟨u,us,rfl,h,t⟩
theorem aE4 : ∀ {ds : List D} {us : List Value},aG1 K ds us → ∃ vs,F6 vs us ∧ ∀ H : Hp,Reps K H ds vs
 | [],_,h=>by cases h; exact ⟨[],.nil,fun _=>rfl⟩
 | d :: ds,_,⟨u,r,e,⟨v,h1,h2⟩,h3⟩=>by
  subst e
  obtain ⟨vs,q1,q2⟩:=aE4 h3
  exact ⟨v :: vs,.cons h1 q1,fun H=>⟨v,vs,rfl,h2 H,q2 H⟩⟩
theorem ay6 (i : Int) (t : Tok) : aV1 K (.int i) (.int i t):=⟨.int i,⟨t,rfl⟩,fun _=>rfl⟩
theorem aQ9 {a : Addr} {o : Obj} {its : Array Value} {n : Nat} {ds : List D} (h : K.lookup a = some o) (hc : o.cls = .type "tuple") (hd : o.data = .seq its n) (hz : its.size ≤ 1000) (hi : aG1 K ds its.toList) : aV1 K (.tuple ds) (.ref a):=by
 obtain ⟨vs,q1,q2⟩:=aE4 hi
 exact ⟨.ref a,rfl,fun H=>⟨a,vs,rfl,.inr ⟨o,its,n,h,hc,hd,Nat.le_of_lt (ap9 hz),q1⟩,q2 H⟩⟩
end
end G
namespace G
open PySem PySem.Spec PyProof.Rows L2
theorem aQ3 (l : Addr) (items : Array Value) (n : Nat) (dd : Option Addr) (sl : Array (Option Value)) (u : Tok) :
  Meets (Builtin.«tuple.__mul__» ⟨[.ref l,.int 1 u],[]⟩) (fun _ R s=>s.heap.get? l = some ⟨.type "tuple", dd,.seq items n,sl⟩ ∧ R (.ok (.ret (Value.ref l))) s) :=
 .of_wp fun prog w A R s h=>by
  obtain ⟨hp,g,d,tk,os⟩:=s
  obtain ⟨hl,h⟩:=h
  wp_walk
  exact ⟨_,rfl,h⟩
section
variable {X : Cx}
theorem bw6 : OpR X (binaryOp .Mult) (fun x y H Q=>∃ l xs,x = .ref l ∧ y = .int 1 ∧ SqT X.K H l xs ∧ Q (.ref l) H):=by
 intro pins s σ H x y v u Q I rx ry h
 obtain ⟨l,xs,rfl,rfl,hq,q⟩:=h
 cases rx
 obtain ⟨t,rfl⟩:=ry
 obtain ⟨its,r,p1,_⟩:=I.tuple hq
 obtain ⟨⟨cls,dd,data,sl⟩,ho,hc,n,hd⟩:=id p1
 simp only at hc hd
 subst hc hd
 exact wpAny_binaryOp_repeat_ref (T := "tuple") (U := "int") (by decide) ⟨_,ho,rfl⟩ (fun s'=>typeIs_int s' 1 t) at7 F.fills_int_mul F.slot_int_rmul aD9 F.slot_int_index.lookup
  (call_meets F.slot_int_rmul (typeIs_int s 1 t) F.entry_int_rmul (F.args_int_rmul_2 _ _) (an0 1 t l its.toArray n dd sl) ⟨ho,rfl,⟨_,ho,rfl⟩,
   call_meets F.slot_tuple_mul ⟨_,ho,rfl⟩ F.entry_tuple_mul (F.args_tuple_mul_2 _ _) (aQ3 l its.toArray n dd sl t) ⟨ho,⟨.ref l,H,I,rfl,q⟩⟩⟩)
theorem aH8 (a : Int) (t : Tok) (l : Addr) (items : Array Value) (n : Nat) (dd : Option Addr) (sl : Array (Option Value)) :
  Meets (Builtin.«int.__rmul__» ⟨[.int a t,.ref l],[]⟩) (fun _ R s=>s.heap.get? l = some ⟨.type "list", dd,.seq items n,sl⟩ ∧ R (.ok (.ret Value.notImplemented)) s):=Meets.of_wp fun prog w A R s h=>by
 obtain ⟨hp,g,d,tk,os⟩:=s
 obtain ⟨hl,h⟩:=h
 wp_walk
 exact ⟨_,rfl,h⟩
theorem aQ5 (l : Addr) (items : Array Value) (n : Nat) (dd : Option Addr) (sl : Array (Option Value)) (x : Int) (u : Tok) (c0 : ¬(!Builtin.List.listFitsIndex x) = true) (c1 : ¬items.size * x.toNat > (2 ^ 63 - 1) / 8) (c2 : ¬Builtin.List.listTooLong (items.size * x.toNat) = true) :
  Meets (Builtin.«list.__mul__» ⟨[.ref l,.int x u],[]⟩) (fun _ R s=>s.heap.get? l = some ⟨.type "list", dd,.seq items n,sl⟩ ∧ R (.ok (.ret (Value.ref s.heap.objs.size))) { s with heap:=s.heap.push { cls:=Value.type "list", data:=Data.seq (List.foldl (fun x1 x2=>x1 ++ x2) #[] (List.replicate (if items.isEmpty = true then 0 else x.toNat) items)) } }):=Meets.of_wp fun prog w A R s h=>by
 obtain ⟨hp,g,d,tk,os⟩:=s
 obtain ⟨hl,h⟩:=h
 have hsz:=AutoListH.joined_fits c2
 wp_walk
 refine wpAny_ite_false (decide_eq_false (Nat.not_lt.mpr hsz)) ?_
 wp_walk
 exact ⟨_,rfl,h⟩
theorem bJ5 : OpR X (binaryOp .Mult) (fun x y H Q=>∃ l k xs,x = .ref l ∧ y = .int k ∧ SqL X.K H l xs ∧ 0 ≤ k ∧ k < 1000000 ∧ xs.length * k.toNat ≤ sizeLine ∧ ∀ p,H p = none → Q (.ref p) (upd H p (.lst (List.replicate k.toNat xs).flatten))):=by
 intro pins s σ H x y v u Q I rx ry h
 obtain ⟨l,k,xs,rfl,rfl,hq,h1,h2,hz,q⟩:=h
 cases rx
 obtain ⟨t,rfl⟩:=ry
 obtain ⟨its,r,p1,_⟩:=I.list hq
 obtain ⟨⟨cls,dd,data,sl⟩,ho,hc,n,hd⟩:=p1.isList
 simp only at hc hd
 subst hc hd
 have hl:=r.length
 have hlen : its.toArray.size * k.toNat ≤ sizeLine:=by rw [List.size_toArray,← hl]; exact hz
 have hcap : ¬ its.toArray.size * k.toNat > (2 ^ 63 - 1) / 8:=by
  have : (sizeLine : Nat) ≤ (2 ^ 63 - 1) / 8:=by decide
  omega
 have hfit : ¬ (!Builtin.List.listFitsIndex k) = true:=by
  rw [fitsIndex_both (by omega) (by omega)]; exact Bool.false_ne_true
 have hlong : ¬ Builtin.List.listTooLong (its.toArray.size * k.toNat) = true:=by
  rw [ad8 hlen]; exact Bool.false_ne_true
 have hnew : List.foldl (fun x1 x2=>x1 ++ x2) #[] (List.replicate (if its.toArray.isEmpty = true then 0 else k.toNat) its.toArray) = (List.replicate k.toNat its).flatten.toArray:=by
  rw [aX1]
  cases its with
  | nil=>simp
  | cons a r'=>rw [if_neg (by simp)]
 refine wpAny_binaryOp_repeat_ref (T := "list") (U := "int") (by decide) ⟨_,ho,rfl⟩ (fun s'=>typeIs_int s' k t) noFill_list_mul F.fills_int_mul F.slot_int_rmul repeat_list F.slot_int_index.lookup
  (call_meets F.slot_int_rmul (typeIs_int s k t) F.entry_int_rmul (F.args_int_rmul_2 _ _) (aH8 k t l its.toArray n dd sl) ⟨ho,rfl,⟨_,ho,rfl⟩,
   call_meets F.slot_list_mul ⟨_,ho,rfl⟩ F.entry_list_mul (F.args_list_mul_2 _ _) (aQ5 l its.toArray n dd sl k t hfit hcap hlong) ⟨ho,?_⟩⟩)
 rw [hnew]
 exact ⟨.ref _,_,I.lnew (t':=s.toks) (r.rep k.toNat) (by rw [aJ7,Nat.mul_comm]; exact hz),rfl,q _ I.fresh⟩
def G3 (x y : D) : Option D:=match x,y with
 | .tuple xs,.int k=>if k = 1 then some (.tuple xs) else W9 (.tuple xs) (.int k)
 | .list xs,.int k=>if 0 ≤ k ∧ k < 1000000 ∧ xs.length * k.toNat ≤ 16777216 then some (.list (List.replicate k.toNat xs).flatten) else none
 | x,y=>W9 x y
theorem bf3 : OpD X (binaryOp .Mult) G3:=fun x y z h=>by
 unfold G3 at h
 split at h
 ·split at h
  ·rename_i xs k c
   subst c
   cases h
   refine OpR.imp bw6 fun vx vy H Q ⟨Hf,s,r1,r2,kk⟩=>?_
   obtain ⟨a,vs,rfl,h2,h3⟩:=r1
   exact ⟨a,vs,rfl,r2,E2 s h2,kk _ _ _ (Grow.refl s) ⟨a,vs,rfl,h2,h3⟩⟩
  ·exact aI7 _ _ z h
 ·split at h
  ·rename_i xs k c
   cases h
   refine OpR.imp bJ5 fun vx vy H Q ⟨Hf,s,r1,r2,kk⟩=>?_
   obtain ⟨a,vs,rfl,h2,h3⟩:=r1
   refine ⟨a,k,vs,rfl,r2,G2 s h2,c.1,c.2.1,by rw [h3.length,sizeLine_eq]; exact c.2.2,fun p hp=>?_⟩
   exact kk _ _ _ (Grow.laid s hp) ⟨p,_,rfl,SqL.of D6,(h3.flatten k.toNat).mono (E8 (s.free hp))⟩
  ·cases h
 ·exact aI7 _ _ z h
theorem as9 (i j : Int) : C5 (.int i) (.int j) = some (.int (i + j)):=rfl
def bp6 (f : Rho → Option (Bool × List D)) (lo hi : Rho → Option (Option Int)) : DE:=fun ρ=>(f ρ).bind fun q=>(lo ρ).bind fun l=>(hi ρ).bind fun h=>if q.1 = true then none else some (.list (P5 q.2 l h))
theorem ci0 {a : Expr} {lo hi : Option Expr} {f : Rho → Option (Bool × List D)} {l h : Rho → Option (Option Int)} {pos p2 : Pos} (ha : JQ X a f) (hl : JO X lo l) (hh : JO X hi h) : JE X (.Subscript a (.Slice lo hi none p2) pos) (bp6 f l h):=fun ρ d q=>by
 obtain ⟨⟨t,xs⟩,e1,q⟩:=Option.bind_eq_some_iff.mp q
 obtain ⟨y,e2,q⟩:=Option.bind_eq_some_iff.mp q
 obtain ⟨z,e3,q⟩:=Option.bind_eq_some_iff.mp q
 cases t with
 | true=>simp at q
 | false =>
  simp only [xft,if_false] at q
  cases q
  refine D4 (an4 be2 (ha ρ _ _ e1) (hl ρ y e2) (hh ρ z e3)) fun σ H Q ⟨H0,Hf,s,sl,k⟩=>?_
  refine ⟨H0,Hf,s,sl,fun v H1 Hf1 g1 ⟨p,vs,q1,q2,q3⟩=>⟨H0,Hf1,g1.sub,sl.grow g1,fun H2 Hf2 g2=>⟨H0,Hf2,g2.sub,sl.grow (g1.trans g2),fun H3 Hf3 g3=>?_⟩⟩⟩
  subst q1
  have q3':=q3.mono (g2.trans g3).ext
  refine ⟨p,vs,rfl,G2 (g2.trans g3).big q2,fun p' hp=>?_⟩
  exact k _ _ _ (((g1.trans g2).trans g3).trans (Grow.laid g3.sub hp)) ⟨p',_,rfl,SqL.of D6,(ax4 q3' y z).mono (E8 (g3.sub.free hp))⟩
def O1 : DS:=fun _=>none
theorem J9 {st : Stmt} : JS X st O1:=fun ρ fl q=>by cases q
def Y4 (f : DE) : Rho → Option Bool:=fun ρ=>(f ρ).bind C6
theorem bz8 {op op' : CmpOp} {h1 h2 : D → D → Option D} {a b c : Expr} {f g k : DE} {pos : Pos} (o1 : OpD X (compareOp op) h1) (o2 : OpD X (compareOp op') h2) (ha : JE X a f) (hb : JE X b g) (hc : JE X c k)
  (hm : lastMarks [op,op'] [b,c] = false:=by with_unfolding_all rfl) : JT X (.Compare a [op,op'] [b,c] pos) (Y4 (D9 h1 h2 f g k)):=fun ρ d q=>by
 obtain ⟨dd,q,ed⟩:=Option.bind_eq_some_iff.mp q
 have ed:=bh4 ed
 subst ed
 obtain ⟨x,e1,q⟩:=Option.bind_eq_some_iff.mp q
 obtain ⟨y,e2,q⟩:=Option.bind_eq_some_iff.mp q
 obtain ⟨z,e3,q⟩:=Option.bind_eq_some_iff.mp q
 split at q
 ·obtain ⟨w,e4,e5⟩:=Option.bind_eq_some_iff.mp q
  refine aI2 (aO7 (o1 x y _ e3) (o2 y w _ e5) (ha ρ x e1) (hb ρ y e2) (hc ρ w e4) hm) fun σ H Q ⟨H0,Hf,s,sl,kk⟩=>?_
  refine ⟨H0,Hf,s,sl,fun v H1 Hf1 g1 r1=>⟨H0,Hf1,g1.sub,sl.grow g1,fun u H2 Hf2 g2 r2=>⟨Hf2,g2.sub,r1.mono g2.ext,r2,fun z' H3 Hf3 g3 r3=>?_⟩⟩⟩
  refine ⟨true,r3,aC0 ⟨H0,Hf3,g3.sub,sl.grow ((g1.trans g2).trans g3),fun w' H4 Hf4 g4 r4=>⟨Hf4,g4.sub,r2.mono (g3.trans g4).ext,r4,fun z2 H5 Hf5 g5 r5=>?_⟩⟩⟩
  exact ⟨d,r5,kk H5 Hf5 ((((g1.trans g2).trans g3).trans g4).trans g5)⟩
 ·cases q
  intro pins s σ H Q I ⟨H0,Hf,ss,sl,kk⟩
  refine aO7 (tc:=fun _ _ _=>False) (r':=fun _ _ _ _=>False) (o1 x y _ e3) (fun _ _ _ _ _ _ _ _ _ _ _ _ h=>h.elim) (ha ρ x e1) (hb ρ y e2) (fun _ _ _ _ _ _ h=>h.elim) hm pins s σ H Q I ?_
  refine ⟨H0,Hf,ss,sl,fun v H1 Hf1 g1 r1=>⟨H0,Hf1,g1.sub,sl.grow g1,fun u H2 Hf2 g2 r2=>⟨Hf2,g2.sub,r1.mono g2.ext,r2,fun z' H3 Hf3 g3 r3=>?_⟩⟩⟩
  exact ⟨false,r3,aC1 ⟨false,rfl,kk H3 Hf3 ((g1.trans g2).trans g3)⟩⟩
 ·cases q
end
end G
namespace Sh
open PySem PySem.Spec PyProof.Rows L2 G
def t7 : DS:=(B5 (G9 (A9 L7 (A5 (A6 0) A7)) (D9 leI leI (dC (.int 1)) (A6 0) (dC (.int 8)))))
def Y3 : List D → Option D:=F8 t7 1
def Q1 : DS:=(B4 (sIf (D0 (B6 (C3 (D5 "tuple" (A6 0)))) (tB2 neD (E5 (B1 0)) (dC (.int 3)))) (B5 (dC (.bool false))) C7) (B5 (G9 (A9 Y3 (A5 (dIx (B1 0) (dC (.int 0))) A7)) (G9 (A9 Y3 (A5 (dIx (B1 0) (dC (.int 1))) A7)) (D5 "tuple" (dIx (B1 0) (dC (.int 2))))))))
def K3 : List D → Option D:=F8 Q1 1
def Q2 : DS:=(B4 (sIf (B6 (C3 (A9 K3 (A5 (A6 0) A7)))) (B5 (dC (.bool false))) C7) (B4 (D3 1 (dIx (B1 0) (dC (.int 2)))) (B5 (G9 (B0 eqD (E5 (B1 1)) (B0 G3 (dIx (B1 0) (dC (.int 0))) (dIx (B1 0) (dC (.int 1))))) (U6 (qN (D2 1 [] (F0 (A6 1)) (C9 0) F7 (A9 P1 (A5 (A6 0) A7)))))))))
def K4 : List D → Option D:=F8 Q2 2
def at2 : DS:=(B4 (P7 4 (D2 1 [0,1] (K0 (B0 G3 (A6 2) (A6 3))) (C9 0) F7 (A9 Z8 (A5 (A6 1) (A5 (B0 C5 (A6 2) (B0 G3 (dC (.int 12)) (A6 0))) A7))))) (B4 (sIf (tB2 eqD (A9 B3 (A5 (A6 0) (A5 (B0 C5 (A6 1) (dC (.int 7))) (A5 (dC (.int 3)) A7)))) (dC (.int 0))) (D3 4 (B0 G3 (al6 (A6 4) J8 (E3 (dC (.int 1)))) (B0 G3 (A6 2) (A6 3)))) C7) (B5 (C2 (A5 (A6 2) (A5 (A6 3) (A5 (N6 (B1 4)) A7)))))))
def u4 : List D → Option D:=F8 at2 5
def O7 : DS:=(B4 (sIf (D0 (B6 (C3 (D5 "tuple" (A6 0)))) (tB2 neD (E5 (B1 0)) (dC (.int 3)))) (B5 (dC (.bool false))) C7) (B4 (sIf (tB2 neD (E4 (D2 1 [] (F0 (al6 (A6 0) J8 (E3 (dC (.int 2))))) (C9 0) (D0 (B6 (C3 (A9 C8 (A5 (A6 0) A7)))) (B6 (Y4 (D9 leI leI (dC (.int 1)) (A6 0) (dC (.int 8)))))) (A6 0))) (E4 A7)) (B5 (dC (.bool false))) C7) (B4 (sIf (D0 (B6 (C3 (D5 "tuple" (dIx (B1 0) (dC (.int 2)))))) (tB2 neD (E5 (qE (dIx (B1 0) (dC (.int 2))))) (B0 G3 (dIx (B1 0) (dC (.int 0))) (dIx (B1 0) (dC (.int 1)))))) (B5 (dC (.bool false))) C7) (B5 (B0 eqD (E4 (D2 1 [] (F0 (dIx (B1 0) (dC (.int 2)))) (C9 0) (B6 (C3 (A9 M3 (A5 (A6 0) A7)))) (A6 0))) (E4 A7))))))
def J0 : List D → Option D:=F8 O7 1
end Sh
namespace G
open PySem PySem.Spec PyProof.Rows L2
theorem aF2 {prog : Program} {w : World} {A : Around} (hh : A.handled = none) (t : Bool) (it l : Addr) (hne : l ≠ it) (xs : Array Value) : Draws prog w A it [it,l] xs.size (fun i x=>xs[i]? = some x) (fun i h=>SIt t h it l i ∧ SSq t h l xs):=by
 refine ⟨fun i h ⟨a,_⟩=>?_,fun i h h' ⟨a,b⟩ k=>⟨a.ext fun o e=>k it (by simp) o e,b.ext fun o e=>k l (by simp) o e⟩,fun i s Q E hi ⟨a,b⟩ hQ=>?_,fun s Q E ⟨a,b⟩ hE=>am9 hh a b (by simp) hE⟩
 ·cases t with
  | true=>obtain ⟨o,ho,_⟩:=a; exact ⟨o,ho⟩
  | false=>obtain ⟨o,ho,_⟩:=a; exact ⟨o,ho⟩
 ·have hx : xs[i]? = some xs[i]:=by simp [hi]
  exact ac8 a b hx fun h' c sb=>hQ _ h' s.toks hx ⟨c,b.ext fun o e=>sb.extBut l o hne e⟩ sb
theorem bj8 (l : Addr) (items : Array Value) (n : Nat) (dd : Option Addr) (sl : Array (Option Value)) :
  Meets (Builtin.«enumerate.__new__» ⟨[.type "enumerate", .ref l],[]⟩) (fun _ R s=>s.heap.get? l = some ⟨.type "tuple", dd,.seq items n,sl⟩ ∧
   R (.ok (.ret (.ref (s.heap.push (an8 true l)).objs.size))) { s with heap:=(s.heap.push (an8 true l)).push { cls:=.type "enumerate", data:=.fields #[.none,.bool false,.ref s.heap.objs.size,rawInt 0,.none,.none] } }):=Meets.of_wp fun prog w A R s h=>by
 obtain ⟨hp,g,d,tk,os⟩:=s
 obtain ⟨hl,h⟩:=h
 have hsub:=sub_enumerate
 have q1 : SSq true (Shared.heap ⟨hp,g,d,tk,os⟩) l items:=⟨_,hl,rfl,n,rfl⟩
 wp_walk using AutoSeq1.wpAny_loadPart' hl
 refine wpAny_stack_any fun st=>wpAny_pure ?_
 split
 ·rename_i c _ _ _ _ _
  cases (c == Value.type "enumerate")
  ·wp_walk using AutoSeq1.wpAny_loadPart' hl,ac9 q1
   exact ⟨_,rfl,h⟩
  ·wp_walk using AutoSeq1.wpAny_loadPart' hl,ac9 q1
   exact ⟨_,rfl,h⟩
 ·wp_walk using AutoSeq1.wpAny_loadPart' hl,ac9 q1
  exact ⟨_,rfl,h⟩
section
variable {prog : Program} {w : World} {A : Around} {E : Value → Shared → Prop} {s : Shared} {t : Bool}
theorem aw8 {l : Addr} {xs : Array Value} {Q : Value → Shared → Prop} (hl : SSq t s.heap l xs)
  (h : ∀ h',IsEnum h' (s.heap.objs.size + 1) s.heap.objs.size 0 .none → SIt t h' s.heap.objs.size l 0 → (∀ c o,s.heap.get? c = some o → h'.get? c = some o) → Q (.ref (s.heap.objs.size + 1)) { s with heap:=h' }) :
  wpAny (model prog w) A (call (.type "enumerate") [.ref l]) Q E s:=by
 cases t with
 | false=>exact call_enumerate_list hl fun h' a b _ d=>h h' a b d
 | true =>
  obtain ⟨⟨cls,dd,data,sl⟩,ho,hc,n,hd⟩:=hl
  simp only at hc hd
  subst hc hd
  refine callType_new F.called_enumerate (by decide) (F.typeCall_enumerate_1 _) (F.newCall_enumerate_1 _) (fun obj=>F.args_object_init_2 obj _) F.entry_enumerate_new (bj8 l xs n dd sl) ⟨ho,?_⟩
  have z1 : (s.heap.push (an8 true l)).objs.size = s.heap.objs.size + 1:=Heap.size_push ..
  show _ ∧ _
  rw [z1]
  have he:=Heap.get?_push_size (s.heap.push (an8 true l)) (o:={ cls:=.type "enumerate", data:=.fields #[.none,.bool false,.ref s.heap.objs.size,rawInt 0,.none,.none] }) rfl
  rw [z1] at he
  exact ⟨⟨_,he,rfl⟩,h _ he ((aH5 (h:=s.heap) (l:=l) true).ext fun o e=>Heap.get?_push_of_some _ e) fun c o e=>Heap.get?_push_of_some _ (Heap.get?_push_of_some _ e)⟩
theorem aF1 {e it l : Addr} {i : Int} {k : Nat} {xs : Array Value} {old : Value} {Q : Option Value → Shared → Prop} (hh : A.handled = none) (he : IsEnum s.heap e it i old) (hit : SIt t s.heap it l k) (hl : SSq t s.heap l xs) (hx : xs[k]? = none)
  (hQ : ∀ h',Heap.ExtBut it s.heap h' → Q none { s with heap:=h' }) : wpAny (model prog w) A (pyNext (.ref e)) Q E s:=by
 have hT : s.TypeIs (.ref e) "enumerate" := ⟨_,he,rfl⟩
 unfold pyNext
 refine wpAny_bind (wpAny_attempt (wpAny_callSpecial?_slot (name:=Str.ofString "__next__") hT F.slot_enumerate_next (wpAny_call_entry F.slot_enumerate_next hT F.entry_enumerate_next ?_ (F.args_enumerate_next_1 _))))
 show wpAny _ _ (field (.ref e) 2 >>= _) _ _ _
 refine wpAny_bind (wpAny_field he rfl (x:=.ref it) rfl (wpAny_bind (am9 hh hit hl hx fun h' x he' hx'=>?_)))
 obtain ⟨o,ho,hc⟩:=hx'
 exact wpAny_bind (wpAny_isInstance (T := "StopIteration") (b:=true) ⟨o,ho,hc⟩ isSubtype_stop (wpAny_pure (hQ _ he')))
end
def Ite (K : PySem.W.Frag) (t : Bool) (a : Addr) : It :=
  ⟨fun i H=>∃ xs x,Sq K t H a xs ∧ xs[i]? = some x,
   fun i H v H'=>∃ T x,v = .ref T ∧ H T = none ∧ H' = upd H T (.tup [.int i,x]) ∧ ∀ xs,Sq K t H a xs → xs[i]? = some x,
   fun i H=>∃ xs,Sq K t H a xs ∧ xs.length ≤ i⟩
theorem bi8 {P : Program} {w : World} {K : PySem.W.Frag} {elts : List Expr} {k0 : Nat} {pos : Pos} {t : Bool} {e it a : Addr} (h1 : e ≠ it) (h2 : a ≠ e) (h3 : a ≠ it) :
  Turn P w K (.Tuple elts k0 pos) (Ite K t a) [e,it] e (fun i h=>(∃ old,IsEnum h e it i old) ∧ SIt t h it a i) where
 mem:=by simp
 obj:=fun i h ⟨⟨old,he⟩,hi⟩ c hc=>by
  simp only [List.mem_cons,List.not_mem_nil,or_false] at hc
  rcases hc with rfl | rfl
  ·exact ⟨_,he,fun v q=>by cases q⟩
  ·cases t with
   | true=>obtain ⟨o,ho,_,hd⟩:=hi; exact ⟨o,ho,fun v q=>by rw [hd] at q; cases q⟩
   | false=>obtain ⟨o,ho,_,hd⟩:=hi; exact ⟨o,ho,fun v q=>by rw [hd] at q; cases q⟩
 keep:=fun i h h' ⟨⟨old,he⟩,hi⟩ hk=>⟨⟨old,hk e (by simp) _ he⟩,hi.ext fun o q=>hk it (by simp) o q⟩
 item:=by
  intro X hP hw hK hc i pins s σ H E I hf ⟨⟨old,he⟩,hi⟩ hg
  subst hP hw hK
  obtain ⟨xs,x,q1,ex⟩:=hg
  obtain ⟨us,r1,p1,lt1⟩:=R8 I q1
  obtain ⟨ux,eux,rx⟩:=r1.get ex
  have hlt : i < us.toArray.size:=by rw [List.size_toArray]; exact (List.getElem?_eq_some_iff.mp eux).1
  refine wpAny_pyNext_enum_itemD (aF2 (A:=X.A.in1) (I.ok.hd hc) t it a h3 us.toArray) he ⟨hi,p1⟩ hlt h1 (by simp only [List.mem_cons,List.not_mem_nil,or_false,not_or]; exact ⟨h1,fun z=>h2 z.symm⟩) fun y h' tk hy ho hst hT hsz hk=>⟨_,rfl,wpAny_letOwnedTupleGo_enum ho fun h'' c1 c2=>?_⟩
  have ey : y = ux:=by
   have : us[i]? = some y:=by simpa using hy
   rw [eux] at this
   exact (Option.some.inj this).symm
  subst ey
  have neT : ∀ c o,s.heap.get? c = some o → c ≠ s.heap.objs.size:=fun c o q=>Nat.ne_of_lt (Heap.lt_size q)
  have up : ∀ c o,c ≠ e → h'.get? c = some o → h''.get? c = some o:=fun c o n q=>c2.extBut c o n q
  refine ⟨.ref s.heap.objs.size,upd H s.heap.objs.size (.tup [.int i,x]),W4 (s:=s) (h':=h'') (t':=tk + 1) (ch:=[e,it]) I hf (Nat.le_refl _) (fun c u hc q=>?_) ?_,rfl,⟨_,x,rfl,I.hok.fresh (Nat.le_refl _),rfl,fun zs hz'=>by rw [aW6 I hz' q1]; exact ex⟩,⟨⟨_,by simpa using c1⟩,hst.1.ext fun o q=>up it o h1.symm q⟩,fun c hc=>?_⟩
  ·simp only [List.mem_cons,List.not_mem_nil,or_false,not_or] at hc
   exact up c u hc.1 (hk c u hc.1 hc.2 q)
  ·refine ⟨by show 2 ≤ sizeLine; decide,[.int i tk,y],.cons ⟨tk,rfl⟩ (.cons rx .nil),_,up _ _ ?_ hT,rfl,_,rfl⟩
   exact fun q=>neT e _ he q.symm
  ·have lt : c < s.heap.objs.size:=by
    simp only [List.mem_cons,List.not_mem_nil,or_false] at hc
    rcases hc with rfl | rfl
    ·exact Heap.lt_size he
    ·exact hi.lt
   rw [D7 (Nat.ne_of_lt lt)]
   exact (hf c hc).1
 done:=by
  intro X hP hw hK hc i pins s σ H E I hf ⟨⟨old,he⟩,hi⟩ hg
  subst hP hw hK
  obtain ⟨xs,q1,hl⟩:=hg
  obtain ⟨us,r1,p1,lt1⟩:=R8 I q1
  have l1:=r1.length
  refine aF1 (I.ok.hd hc) he hi p1 (by simp; omega) fun h' hk=>⟨rfl,S4 (t':=s.toks) (ch:=[e,it]) I hf fun c u hc q=>?_⟩
  simp only [List.mem_cons,List.not_mem_nil,or_false,not_or] at hc
  exact hk c u hc.2 q
 self:=fun _ _ _ _ _ st h=>by
  obtain ⟨⟨old,he⟩,_⟩:=st
  exact wpAny_pyIter_enum he h
section
variable {X : Cx}
def az2 (ds : List D) : List D:=(List.range ds.length).zip ds |>.map fun (k,d)=>PyData.tuple [.int (k : Nat),d]
def bB9 (f : Rho → Option (Bool × List D)) : Rho → Option (List D):=fun ρ=>(f ρ).map fun q=>az2 q.2
theorem aS5 (ds : List D) (i : Nat) : (az2 ds)[i]? = (ds[i]?).map fun d=>.tuple [.int i,d]:=by
 unfold az2
 rw [List.getElem?_map]
 cases e : ds[i]? with
 | none =>
  have : ds.length ≤ i:=by simpa using e
  have z : ((List.range ds.length).zip ds)[i]? = none:=by simp; omega
  rw [z]; rfl
 | some d =>
  have hi:=(List.getElem?_eq_some_iff.mp e).1
  have z : ((List.range ds.length).zip ds)[i]? = some (i,d):=List.getElem?_zip_eq_some.mpr ⟨by simp [hi],e⟩
  rw [z]; rfl
theorem ae4 (ds : List D) : (az2 ds).length = ds.length:=by unfold az2; simp
theorem aN2 {K : PySem.W.Frag} {t : Bool} {a : Addr} {vs : List V} {ds : List D} {Hf1 : Hp} (h1 : Sq K t Hf1 a vs) (r1 : Reps K Hf1 ds vs) : aM6 K (Ite K t a) (az2 ds) Hf1:=by
 have mono : ∀ {t : Bool} {a : Addr} {xs : List V} {H H' : Hp},F9 H H' → Sq K t H a xs → Sq K t H' a xs:=fun {t a xs H H'} e h=>by
  cases t with
  | true=>exact E2 e h
  | false=>exact G2 e h
 intro i H Hf sa sb
 have m1:=mono (sa.trans sb) h1
 have l1:=r1.length
 refine ⟨fun hi=>⟨vs,m1,by rw [ae4] at hi; omega⟩,fun d hd=>?_⟩
 rw [aS5] at hd
 obtain ⟨x,q1,q2⟩:=Option.map_eq_some_iff.mp hd
 subst q2
 obtain ⟨vx,e1,e2⟩:=r1.get q1
 refine ⟨⟨vs,vx,m1,e1⟩,fun v H' ⟨T,x',z1,z2,z3,z4⟩=>?_⟩
 subst z1 z3
 have w1:=z4 vs m1
 rw [e1] at w1
 cases w1
 have nf : Hf T = none:=sb.free z2
 exact ⟨upd Hf T (.tup [.int i,vx]),Grow.laid sb z2,T,[.int i,vx],rfl,SqT.of D6,.int i,[vx],rfl,rfl,vx,[],rfl,(e2.mono sa).mono (E8 nf),rfl⟩
theorem bN6 {elts : List Expr} {k0 : Nat} {tpos : Pos} {a : Expr} {f : DE} {p pos : Pos} (hg : Gl X "enumerate") (hm : X.mg "enumerate" = none) (ha : JE X a f) (hs : starEach [a] X.env = [(false,eval a X.env)]:=by rfl) :
  JI X (.Tuple elts k0 tpos) (.Call (.Name "enumerate" p) [a] [] pos) (bB9 (qE f)):=fun ρ out q=>by
 obtain ⟨⟨t1,ds⟩,e1,q⟩:=Option.map_eq_some_iff.mp q
 subst q
 obtain ⟨d1,e1,e1'⟩:=Option.bind_eq_some_iff.mp e1
 intro pins s σ H R I ⟨H0,Hf,ss,sl,k⟩
 refine Call_ (ae1 I hg hm rfl (PyProof.Rows.callWith_type1 (thn (E6 (ha ρ d1 e1) J7 (by rw [hs]; rfl) pos pins s σ H
  (fun vs H'=>∃ v Hf',vs = [v] ∧ Grow H Hf H' Hf' ∧ Rep X.K Hf' d1 v) I ⟨H0,Hf,ss,sl,fun v H1 Hf1 g1 r1=>⟨v,Hf1,rfl,g1,r1⟩⟩) fun us s1 ⟨vs,H1,I1,r1,v,Hf1,ev,gr,p1⟩=>?_) (by rw [hs]; rfl) (by rfl)))
 subst ev
 obtain ⟨uv,rfl,rv⟩:=r1.one
 obtain ⟨a1,vs1,rfl,w1,w2⟩:=p1.seq (F9.refl Hf1) e1'
 cases rv
 have mono : ∀ {t : Bool} {a : Addr} {xs : List V} {H H' : Hp},F9 H H' → Sq X.K t H a xs → Sq X.K t H' a xs:=fun {t a xs H H'} e h=>by
  cases t with
  | true=>exact E2 e h
  | false=>exact G2 e h
 obtain ⟨us1,rr1,hp1,lt1⟩:=R8 I1 (mono gr.sub w1)
 refine aw8 hp1 fun h' b1 b2 b3=>?_
 have I2 : Inv X pins σ H1 { s1 with heap:=h' }:=I1.kept (t':=s1.toks) b3
 refine wpAny_pyIter_enum b1 ⟨_,_,_,_,H1,rfl,I2,bi8 (e:=s1.heap.objs.size + 1) (it:=s1.heap.objs.size) (a:=a1) (Nat.succ_ne_self _) (Nat.ne_of_lt (Nat.lt_succ_of_lt lt1)) (Nat.ne_of_lt lt1),⟨⟨_,b1⟩,b2⟩,fun b hb=>?_,k _ H1 Hf1 gr (aN2 w1 w2)⟩
 have hb' : s1.heap.objs.size ≤ b:=by
  simp only [List.mem_cons,List.not_mem_nil,or_false] at hb
  rcases hb with rfl | rfl
  ·exact Nat.le_add_right _ _
  ·exact Nat.le_refl _
 exact I1.fpOk hb' (I1.hok.fresh hb')
end
end G
namespace G
open PySem PySem.Spec PyProof.Rows L2
section
variable {prog : Program} {w : World} {A : Around} {E : Value → Shared → Prop} {s : Shared}
theorem aw7 {l b sl : Addr} {items new : Array Value} {n n2 : Nat} {vl vu : Value} {lo hi : Option Int} {Q : Unit → Shared → Prop}
    (e : s.heap.get? l = some { cls:=.type "list", data:=.seq items n }) (e2 : s.heap.get? b = some { cls:=.type "list", data:=.seq new n2 }) (hne : l ≠ b)
    (hs : s.heap.IsSliceOf sl vl vu .none) (pl : IsPart vl lo) (pu : IsPart vu hi) (hsz : items.size + new.size ≤ sizeLine)
    (h : Q () { s with heap:=s.heap.update l (Obj.mapSeq fun xs=>xs.extract 0 (HT.sIx items.size 0 lo) ++ new ++ xs.extract (max (HT.sIx items.size 0 lo) (HT.sIx items.size items.size hi)) xs.size) }) :
    wpAny (model prog w) A (setItem (.ref l) (.ref sl) (.ref b)) Q E s:=by
  have hl : s.heap.IsList l items:=PySem.IsL.isList e
  have hb : s.heap.IsList b new:=PySem.IsL.isList e2
  obtain ⟨os,hos,hcs,hds⟩:=id hs
  have hTs : s.TypeIs (.ref sl) "slice" := ⟨os,hos,hcs⟩
  have hstep : ¬ ((rawPart none == rawInt 0) = true):=Bool.false_ne_true
  have hsame : Builtin.List.listSameRef (.ref l) (.ref b) = false:=by
    unfold Builtin.List.listSameRef
    exact beq_eq_false_iff_ne.mpr hne
  have hbd : sliceBounds lo hi none items.size = (((HT.sIx items.size 0 lo : Nat) : Int),((HT.sIx items.size items.size hi : Nat) : Int),1):=by
    obtain ⟨h1,h2,h3⟩:=am8 lo hi items.size
    exact Prod.ext h1 (Prod.ext h2 h3)
  have hmax : (max ((HT.sIx items.size 0 lo : Nat) : Int) ((HT.sIx items.size items.size hi : Nat) : Int)).toNat = max (HT.sIx items.size 0 lo) (HT.sIx items.size items.size hi):=by omega
  have hz' : ((fun xs : Array Value=>xs.extract 0 (HT.sIx items.size 0 lo) ++ new ++ xs.extract (max (HT.sIx items.size 0 lo) (HT.sIx items.size items.size hi)) xs.size) items).size ≤ sizeLine + 1:=by
    simp only [Array.size_append,Array.size_extract]
    omega
  unfold setItem
  try with_reducible refine wpAny_holding ?_
  first | refine wpAny_bind (wpAny_pure ?_) | skip
  refine wpAny_bind (wpAny_sequenceKey hl.typeIs (by decide) ?_)
  refine wpAny_bind (wpAny_callSpecial?_slot (name:=Str.ofString "__setitem__") hl.typeIs slot_list_setitem (wpAny_call_entry slot_list_setitem hl.typeIs entry_list_setitem ?_ (args_list_setitem _ _ _)))
  show wpAny _ _ (Builtin.List.listSubscript? (.ref sl) >>= _) _ _ s
  refine wpAny_bind ?_
  unfold Builtin.List.listSubscript?
  refine wpAny_bind (wpAny_specialOf hTs slice_no_index ?_)
  simp only [Option.isNone_none,if_true]
  refine wpAny_pure ?_
  show wpAny _ _ (typeOf (.ref sl) >>= _) _ _ s
  refine wpAny_bind (wpAny_typeOf hTs ?_)
  first
    | rw [if_neg (by decide)]
    | refine PySem.W.KFB.if_not (by decide) ?_
  rw [listSliceParts_eq]
  refine wpAny_bind (wpAny_bind (wpAny_field hos hds (x:=.none) rfl (wpAny_bind (wpAny_listPart .none ?_))))
  rw [if_neg hstep]
  refine wpAny_bind (wpAny_field hos hds (x:=vl) rfl (wpAny_bind (wpAny_listPart pl ?_)))
  refine wpAny_bind (wpAny_field hos hds (x:=vu) rfl (wpAny_bind (wpAny_listPart pu (wpAny_pure ?_))))
  first
    | simp only [hsame,xft,if_false]
    | refine PySem.W.KFB.if_not hsame ?_
    | (dsimp only
       rw [if_neg (by rw [hsame]; exact Bool.false_ne_true)])
  refine wpAny_bind (m:=Builtin.List.listAllItems (.ref b) "must assign iterable to extended slice") ?_
  unfold Builtin.List.listAllItems
  refine wpAny_bind (wpAny_typeOf hb.typeIs ?_)
  first
    | refine PySem.W.KFB.if_so (by decide) ?_
    | rw [if_pos (by decide)]
    | simp only [beq_self_eq_true,Bool.true_or,if_true]
  unfold Builtin.List.listItems
  refine wpAny_bind (wpAny_seqItems e2 rfl (wpAny_pure ?_))
  refine wpAny_bind (wpAny_bind (wpAny_seqItems e rfl (wpAny_pure ?_)))
  refine wpAny_bind (wpAny_of_eq ((sliceIndices_raw lo hi none items.size (by simp)).trans (congrArg (pure : Int × Int × Int → Sem (Int × Int × Int)) hbd)) ?_)
  show wpAny _ _ (if ((1 : Int) == 1) = true then _ else _) _ _ s
  rw [if_pos (by decide)]
  refine wpAny_bind (wpAny_rule ?_)
  first
    | simp only [ad8 hsz,xft,if_false]
    | refine PySem.W.KFB.if_not (ad8 hsz) ?_
  first | refine wpAny_bind (wpAny_pure ?_) | skip
  show wpAny _ _ (updateSeq l (fun xs=>xs.extract 0 (((HT.sIx items.size 0 lo : Nat) : Int)).toNat ++ new ++ xs.extract (max ((HT.sIx items.size 0 lo : Nat) : Int) ((HT.sIx items.size items.size hi : Nat) : Int)).toNat xs.size) >>= _) _ _ s
  rw [hmax,Int.toNat_natCast]
  refine wpAny_bind (wpAny_updateSeq (hz:=Nat.le_trans (Nat.le_add_right _ _) hsz) (_hz':=hz') e rfl ?_)
  refine wpAny_bind (wpAny_letGo ?_)
  first
    | exact wpAny_bind (wpAny_pure (wpAny_pure ⟨.none,rfl,wpAny_pure h⟩))
    | exact wpAny_pure ⟨.none,rfl,wpAny_pure h⟩
end
section
variable {X : Cx}
def aw4 {α : Type} (xs : List α) (lo hi : Option Int) (ys : List α) : List α:=xs.take (HT.sIx xs.length 0 lo) ++ ys ++ xs.drop (max (HT.sIx xs.length 0 lo) (HT.sIx xs.length xs.length hi))
theorem aW8 {pins : List (Addr × Obj)} {s : Shared} {σ : L2.St} {H : Hp} {l b sl : Addr} {xs ys : List V} {lo hi : Option Int} {vl vu : Value} {Q : Unit → Shared → Prop} (I : Inv X pins σ H s)
  (hH : H l = some (.lst xs)) (hB : H b = some (.lst ys)) (hne : l ≠ b) (hs : s.heap.IsSliceOf sl vl vu .none) (pl : IsPart vl lo) (pu : IsPart vu hi)
  (hz : xs.length + ys.length ≤ sizeLine) (h : ∀ s',Inv X pins σ (upd H l (.lst (aw4 xs lo hi ys))) s' → Q () s') :
  wpAny (model X.prog X.w) X.A (setItem (.ref l) (.ref sl) (.ref b)) Q X.xe s:=by
 obtain ⟨z,its,n,r,hl,e⟩:=I.lstM hH
 obtain ⟨z2,its2,n2,r2,hl2,e2⟩:=I.lstM hB
 refine aw7 e e2 hne hs pl pu (by rw [List.size_toArray,List.size_toArray]; omega) (h _ ?_)
 have hz0 : its.toArray.size = xs.length:=by rw [List.size_toArray]; exact hl.symm
 refine I.lset (its':=its.take (HT.sIx xs.length 0 lo) ++ its2 ++ its.drop (max (HT.sIx xs.length 0 lo) (HT.sIx xs.length xs.length hi))) (t':=s.toks) hH e ?_ (F6.append (F6.append (r.take _) r2) (r.drop _)) ?_
 ·have e0:=bj3 its its2 (HT.sIx xs.length 0 lo) (max (HT.sIx xs.length 0 lo) (HT.sIx xs.length xs.length hi))
  rw [hz0] at e0 ⊢
  exact e0
 ·unfold aw4
  rw [List.length_append,List.length_append,List.length_take,List.length_drop]
  omega
theorem bv2 {K : PySem.W.Frag} {H : Hp} {ds es : List D} {vs us : List V} (h : Reps K H ds vs) (g : Reps K H es us) (lo hi : Option Int) : Reps K H (aw4 ds lo hi es) (aw4 vs lo hi us):=by
 unfold aw4
 rw [h.length]
 exact ((h.take _).append g).append (h.drop _)
theorem Slots.reOwn {K : PySem.W.Frag} {H0 H Hf : Hp} {ρ : Rho} {σ : L2.St} {i : Nat} {ds ds' : List D} {b : Addr} {vs' : List V} (sl : Slots K H0 ρ σ H Hf) (eo : ρ[i]? = some (some (.own ds))) (h1 : σ[i]? = some (some (.ref b))) (hf : Hf b = none) (h0 : H0 b = none) (r : Reps K Hf ds' vs') :
  Slots K H0 (ρ.set i (some (.own ds'))) σ (upd H b (.lst vs')) Hf:=by
 refine ⟨by simpa using sl.len,fun j bb z=>?_,fun j k ds1 es c q1 q2 q3 q4=>?_⟩
 ·by_cases qj : i = j
  ·subst qj
   have hi : i < ρ.length:=(List.getElem?_eq_some_iff.mp eo).1
   rw [List.getElem?_set_self hi] at z
   cases z
   exact ⟨_,h1,b,vs',rfl,D6,hf,h0,r⟩
  ·rw [List.getElem?_set_ne qj] at z
   obtain ⟨u,z1,z2⟩:=sl.is j bb z
   refine ⟨u,z1,?_⟩
   cases bb with
   | val d=>exact z2
   | own dd =>
    obtain ⟨a',us',y1,y2,y3,y4,y5⟩:=z2
    have ne : a' ≠ b:=fun zz=>by
     subst zz y1
     exact qj (sl.apart i j ds dd a' eo z h1 z1)
    exact ⟨a',us',y1,by rw [D7 ne]; exact y2,y3,y4,y5⟩
 ·have f : ∀ (j : Nat) (es : List D),(ρ.set i (some (B.own ds')))[j]? = some (some (B.own es)) → ∃ dd : List D,ρ[j]? = some (some (B.own dd)):=fun j es q=>by
   by_cases qj : i = j
   ·subst qj; exact ⟨ds,eo⟩
   ·rw [List.getElem?_set_ne qj] at q; exact ⟨_,q⟩
  obtain ⟨d1,q1'⟩:=f j _ q1
  obtain ⟨d2,q2'⟩:=f k _ q2
  exact sl.apart j k d1 d2 c q1' q2' q3 q4
def bu9 (i : Nat) (lo hi : Rho → Option (Option Int)) (f : Rho → Option (List D)) : DS:=fun ρ=>(f ρ).bind fun es=>(lo ρ).bind fun l=>(hi ρ).bind fun h=>match ρ[i]? with
 | some (some (.own ds))=>if ds.length + es.length ≤ 16777216 then some (.nx (ρ.set i (some (.own (aw4 ds l h es))))) else none
 | _=>none
theorem cf9 (i : Nat) {x : Str} {e : Expr} {lo hi : Option Expr} {f : Rho → Option (List D)} {l h : Rho → Option (Option Int)} {p p2 pos' pos : Pos} (he : JN X e f) (hl : JO X lo l) (hh : JO X hi h) (hN : X.N[i]? = some x:=by rfl)
  (hv : Vis X.env.scope x:=by first | exact Or.inl rfl | exact Or.inr (Or.inl rfl) | exact Or.inr (Or.inr rfl)) (hd : (x == ("__debug__" : Str)) = false:=by decide) (hcd : (x == ("__classdict__" : Str)) = false:=by decide)
  (hsw : swapsWith e (some (.Subscript (.Name x p) (.Slice lo hi none p2) pos')) pos.line X.env = pure false:=by rfl) : JS X (.Assign [.Subscript (.Name x p) (.Slice lo hi none p2) pos'] e pos) (bu9 i l h f):=fun ρ fl q H0 Hf0=>by
 obtain ⟨es,e1,q⟩:=Option.bind_eq_some_iff.mp q
 obtain ⟨y,e2,q⟩:=Option.bind_eq_some_iff.mp q
 obtain ⟨z,e3,q⟩:=Option.bind_eq_some_iff.mp q
 split at q
 ·rename_i ds eo
  split at q
  ·rename_i hz
   cases q
   intro pins s σ H En I ⟨Hf,a,ee⟩
   refine wpAny_Assign_Subscript (thn (he ρ es e1 pins s σ H (fun v H'=>∃ Hf',Grow H Hf H' Hf' ∧ ∃ b us,v = .ref b ∧ H b = none ∧ H' b = some (.lst us) ∧ Hf' b = none ∧ Reps X.K Hf' es us) I ⟨H0,Hf,a.gr.sub,a.sl,fun v H' Hf' g r=>⟨Hf',g,r⟩⟩) fun v s1 ⟨x1,H1,I1,r1,Hf1,g1,b,us,ev,b1,b2,b3,b4⟩=>?_) hsw
   subst ev
   cases r1
   obtain ⟨vl0,h1,c,vs,ev,h2,h3,h4,h5⟩:=a.sl.is i _ eo
   subst ev
   refine thn (ak8 hN hv hd hcd pins s1 σ H1 (fun v H'=>v = .ref c ∧ H' = H1) I1 ⟨_,h1,rfl,rfl⟩) fun ov s2 ⟨x2,H2,I2,r2,ex,eH⟩=>?_
   subst ex eH
   cases r2
   have sl1:=a.sl.grow g1
   refine wpAny_Slice (thn (hl ρ y e2 pins s2 σ H2 (fun o H'=>o = y ∧ ∃ Hf',Grow H2 Hf1 H' Hf') I2 ⟨H0,Hf1,g1.sub,sl1,fun H' Hf' g=>⟨rfl,Hf',g⟩⟩) fun wl s3 ⟨o3,H3,I3,pl,eo3,Hf3,g3⟩=>?_)
   subst eo3
   have sl3:=sl1.grow g3
   refine thn (hh ρ z e3 pins s3 σ H3 (fun o H'=>o = z ∧ ∃ Hf',Grow H3 Hf3 H' Hf') I3 ⟨H0,Hf3,g3.sub,sl3,fun H' Hf' g=>⟨rfl,Hf',g⟩⟩) fun wu s4 ⟨o4,H4,I4,pu,eo4,Hf4,g4⟩=>?_
   subst eo4
   have sl4:=sl3.grow g4
   have gg : Grow H Hf H4 Hf4:=(g1.trans g3).trans g4
   rw [evalPart_none]
   refine wpAny_pure ?_
   have I5 : Inv X pins σ H4 { s4 with heap:=s4.heap.push { cls:=.type "slice", data:=.fields #[wl,wu,.none] } }:=I4.kept (t':=s4.toks) fun b ob q=>Heap.get?_push_of_some _ q
   have hc : H4 c = some (.lst vs):=gg.big _ _ h2
   have hb : H4 b = some (.lst us):=(g3.trans g4).big _ _ b2
   have hcb : c ≠ b:=fun zz=>by subst zz; rw [h2] at b1; cases b1
   have hfc : Hf4 c = none:=gg.nofr h2 h3
   have rd : Reps X.K Hf4 (aw4 ds o3 o4 es) (aw4 vs o3 o4 us):=bv2 (h5.mono gg.ext) (b4.mono (g3.trans g4).ext) _ _
   refine aW8 I5 hc hb hcb (Heap.IsSliceOf.new ..) pl pu (by rw [h5.length,b4.length,sizeLine_eq]; exact hz) fun s' I'=>?_
   have ga:=a.gr.trans gg
   refine ⟨σ,_,I',ee σ _ Hf4 ⟨⟨fun d u zz=>?_,fun d u zz=>?_,ga.ext,ga.new⟩,sl4.reOwn eo h1 hfc h4 rd⟩ gg.ext⟩
   ·rw [D7 (D8 zz h4)]; exact ga.big d u zz
   ·rw [D7 (D8 zz hfc)]; exact ga.sub d u zz
  ·cases q
 ·cases q
theorem bM7 (i : Nat) {N' : List Str} {n : Nat} {caps : List Nat} {scope : Scope} {elt tgt iter : Expr} {ifs : List Expr} {pos pos' spos : Pos} {x : Str} {src : Rho → Option (List D)} {g : D → Rho → Option Rho} {c : Rho → Option Bool} {e : DE} (hN : X.N.Nodup) (S : CompSc X N' n caps scope) (hx : ∀ e s,X.xe e s → False)
  (hi : JI X tgt iter src) (hg : ∀ C s0 H0 ex,JG (G4 X N' scope C s0 H0 ex) tgt g) (ht : ∀ C s0 H0 ex,JTs (G4 X N' scope C s0 H0 ex) ifs c) (he : ∀ C s0 H0 ex,JE (G4 X N' scope C s0 H0 ex) elt e)
  (hi2 : X.N[i]? = some x:=by rfl) (hl : X.env.scope.names.lookup x = some .local:=by rfl) (hsw : swapsWith (.ListComp elt [⟨tgt,iter,ifs,0⟩] scope pos) (some (.Name x pos')) spos.line X.env = pure true:=by rfl)
  (hc : X.calm = true:=by rfl) (hs : ∀ x,foldedSetIterable iter X.env x = pure x:=by intro _; rfl) : JS X (.Assign [.Name x pos'] (.ListComp elt [⟨tgt,iter,ifs,0⟩] scope pos) spos) (U4 i (D2 n caps src g c e)):=fun ρ fl q H0 Hf0=>by
 obtain ⟨out,e1,e2⟩:=Option.map_eq_some_iff.mp q
 subst e2
 obtain ⟨ds,e3,k⟩:=al7 (K:=X.K) e1
 refine P2 (ax9 S hx hc hN hi2 hl (hi ρ ds e3) (g:=tgJ X.K g) (tc:=aD2 X.K c) (te:=bd3 X.K e) hg ht (fun C s0 H0 ex pins s σ H Q I ⟨ρ,d,e,t⟩=>he C s0 H0 ex ρ d e pins s σ H Q I t) hsw hs) fun En σ H ⟨Hf,a,ee⟩=>k σ H _ ⟨H0,Hf,a.gr.sub,a.sl,fun v H' Hf' gg ⟨p,vs,z1,z2,z3,z4,z5⟩=>?_⟩
 subst z1
 exact ee _ H' Hf' ⟨a.gr.trans gg,a.sl.setOwn gg (a.gr.big.free z2) z2 z3 z4 z5⟩ gg.ext
def bR6 : DS:=fun ρ=>some (.ct ρ)
theorem bM8 {pos : Pos} : JS X (.Continue pos) bR6:=fun ρ fl q H0 Hf0=>by
 cases q
 exact P2 aO8 fun En σ H ⟨Hf,a,e⟩=>e σ H Hf a (F9.refl _)
end
end G
namespace G
open PySem PySem.Spec PyProof.Rows L2
section
variable {X : Cx}
def au1 (x : Str) (k : Int) : Str:=if (k == 1 || x.length == 0) = true then x else ⟨(List.replicate k.toNat x.cps).foldl (· ++ ·) #[]⟩
def bm8 (x y : D) : Option D:=match x,y with
 | .str x,.int k=>if 1 ≤ k ∧ k ≤ 2 ∧ x.length ≤ 1000 ∧ (au1 x k).length ≤ 16777216 then some (.str (au1 x k)) else none
 | _,_=>none
theorem bK4 : OpD X (binaryOp .Mult) bm8:=fun x y z h=>by
 unfold bm8 at h
 split at h
 ·split at h
  ·rename_i x k c
   cases h
   intro pins s σ H vx vy v u Q I rx ry ⟨Hf,ss,r1,r2,kk⟩
   cases r1
   cases r2
   obtain ⟨t,rfl⟩:=rx
   obtain ⟨t2,rfl⟩:=ry
   have w:=kk (.str (au1 x k)) H Hf (Grow.refl ss) rfl
   have k12 : k = 1 ∨ k = 2:=by omega
   refine P.mul_str (by rw [decide_eq_false (by omega),decide_eq_false (by omega)]; rfl) (fun _ _=>by rcases k12 with rfl | rfl <;> omega) (fun _ _=>?_) ?_
   ·unfold Builtin.Str.tooLong
    rw [sizeLine_eq]
    refine decide_eq_false ?_
    rcases k12 with rfl | rfl <;> simp <;> omega
   ·rw [if_neg (by omega)]
    unfold au1 at w c
    split
    ·rename_i e
     rw [if_pos e] at w
     exact ⟨.str x,H,I,⟨_,rfl⟩,w⟩
    ·rename_i e
     rw [if_neg e] at w c
     exact ⟨by rw [sizeLine_eq]; exact c.2.2.2,.str _,H,I.tok _,⟨_,rfl⟩,w⟩
  ·cases h
 ·cases h
def slS (x : Str) (lo hi : Option Int) : Str:=if ((1 : Int) == 1 && (Builtin.Str.strSliceIndices lo hi 1 x.length).length == x.length) = true then x else ⟨((Builtin.Str.strSliceIndices lo hi 1 x.length).filterMap (x.cps[·]?)).toArray⟩
def bp5 (f : DE) (lo hi : Rho → Option (Option Int)) : DE:=fun ρ=>(f ρ).bind fun d=>(lo ρ).bind fun l=>(hi ρ).bind fun h=>match d with
 | .str x=>if x.length ≤ 1000 ∧ (slS x l h).length ≤ 16777216 then some (.str (slS x l h)) else none
 | _=>none
theorem bf0 {u : Value} {o : Option Int} (h : IsPart u o) : ∃ p : Option (Int × Tok),u = partValue p ∧ p.map (·.1) = o:=by
 cases h with
 | none=>exact ⟨none,rfl,rfl⟩
 | int i t=>exact ⟨some (i,t),rfl,rfl⟩
theorem bH0 : SlR X (fun x lo hi H Q=>∃ z,x = .str z ∧ (slS z lo hi).length ≤ 16777216 ∧ Q (.str (slS z lo hi)) H):=by
 intro pins s σ H x v vl vu lo hi sl Q I rx hs pl pu h
 obtain ⟨z,rfl,hz,q⟩:=h
 obtain ⟨t,rfl⟩:=rx
 obtain ⟨pl',rfl,rfl⟩:=bf0 pl
 obtain ⟨pu',rfl,rfl⟩:=bf0 pu
 refine ⟨"str", _,F.slot_str_getitem.lookup,typeIs_str s z t,wpAny_getItem_str_slice (l:=pl') (u:=pu') (st:=none) hs rfl ?_⟩
 show (if ((1 : Int) == 1 && (Builtin.Str.strSliceIndices (pl'.map (·.1)) (pu'.map (·.1)) 1 z.length).length == z.length) = true then Made.val (.str z t) else Made.str ⟨((Builtin.Str.strSliceIndices (pl'.map (·.1)) (pu'.map (·.1)) 1 z.length).filterMap (z.cps[·]?)).toArray⟩).post _ _
 unfold slS at q hz
 by_cases e : ((1 : Int) == 1 && (Builtin.Str.strSliceIndices (pl'.map (·.1)) (pu'.map (·.1)) 1 z.length).length == z.length) = true
 ·rw [if_pos e] at q ⊢
  exact ⟨.str z,H,I,⟨_,rfl⟩,q⟩
 ·rw [if_neg e] at q hz ⊢
  exact ⟨by rw [sizeLine_eq]; exact hz,.str _,H,I.tok _,⟨_,rfl⟩,q⟩
theorem ch9 {a : Expr} {lo hi : Option Expr} {f : DE} {l h : Rho → Option (Option Int)} {pos p2 : Pos} (ha : JE X a f) (hl : JO X lo l) (hh : JO X hi h) : JE X (.Subscript a (.Slice lo hi none p2) pos) (bp5 f l h):=fun ρ d q=>by
 obtain ⟨x,e1,q⟩:=Option.bind_eq_some_iff.mp q
 obtain ⟨y,e2,q⟩:=Option.bind_eq_some_iff.mp q
 obtain ⟨z,e3,q⟩:=Option.bind_eq_some_iff.mp q
 cases x with
 | str x =>
  simp only at q
  split at q
  ·rename_i c
   cases q
   refine D4 (an4 bH0 (ha ρ _ e1) (hl ρ y e2) (hh ρ z e3)) fun σ H Q ⟨H0,Hf,s,sl,k⟩=>?_
   refine ⟨H0,Hf,s,sl,fun v H1 Hf1 g1 r1=>⟨H0,Hf1,g1.sub,sl.grow g1,fun H2 Hf2 g2=>⟨H0,Hf2,g2.sub,sl.grow (g1.trans g2),fun H3 Hf3 g3=>?_⟩⟩⟩
   exact ⟨x,r1,c.2,k _ H3 Hf3 ((g1.trans g2).trans g3) rfl⟩
  ·cases q
 | _=>cases q
def aX0 (i : Nat) (f : DE) : DS:=fun ρ=>match ρ[i]? with
 | some (some (.own ds))=>(f ρ).bind fun d=>match d with
  | .list es=>if ds.length + es.length ≤ 16777216 then some (.nx (ρ.set i (some (.own (ds ++ es))))) else none
  | .tuple es=>if ds.length + es.length ≤ 16777216 then some (.nx (ρ.set i (some (.own (ds ++ es))))) else none
  | _=>none
 | _=>none
end
end G
namespace Sh
open PySem PySem.Spec PyProof.Rows L2 G
def at3 : DS:=(B5 (dIx (B1 0) (dC (.int 0))))
def S9 : List D → Option D:=F8 at3 1
def aB1 : DS:=(B5 (B0 eqD (A9 S9 (A5 (A6 0) A7)) (dC (.str "layer"))))
def ab8 : List D → Option D:=F8 aB1 1
def aG8 : DS:=(B5 (B0 eqD (A9 S9 (A5 (A6 0) A7)) (dC (.str "tone"))))
def ai0 : List D → Option D:=F8 aG8 1
def at9 : DS:=(B5 (dIx (B1 0) (dC (.int 2))))
def O0 : List D → Option D:=F8 at9 1
def aG2 : DS:=(B5 (dIx (B1 0) (dC (.int 2))))
def ah5 : List D → Option D:=F8 aG2 1
def aj4 : DS:=(B5 (dIx (B1 0) (dC (.int 3))))
def P0 : List D → Option D:=F8 aj4 1
def aB0 : DS:=(B5 (dIx (B1 0) (dC (.int 4))))
def f8 : List D → Option D:=F8 aB0 1
def bs7 : DS:=(B5 (dIx (B1 0) (dC (.int 5))))
def ah7 : List D → Option D:=F8 bs7 1
def bF9 : DS:=(B5 (dIx (B1 0) (dC (.int 6))))
def ap4 : List D → Option D:=F8 bF9 1
def bs6 : DS:=(B5 (dIx (B1 0) (dC (.int 7))))
def ah6 : List D → Option D:=F8 bs6 1
def bc9 : DS:=(B5 (dIx (B1 0) (dC (.int 8))))
def Z7 : List D → Option D:=F8 bc9 1
def aD1 : DS:=(B5 (dIx (B1 0) (dC (.int 5))))
def J5 : List D → Option D:=F8 aD1 1
def aG6 : DS:=(B4 (D3 3 (B0 eqD (A9 B3 (A5 (A6 0) (A5 (A6 1) (A5 (dC (.int 2)) A7)))) (dC (.int 0)))) (B4 (U4 4 A7) (B4 (W3 (K0 (A6 2)) (C9 5) (B4 (D3 6 (az7 (dC (.str "")) (qN (D2 1 [0,1,5] (K0 (dC (.int 2))) (C9 0) F7 (ac0 (dC (.str "abcdefghijklmnopqrstuvwxyz")) (A9 B3 (A5 (A6 1) (A5 (B0 C5 (B0 C5 (B0 C5 (A6 2) (dC (.int 1))) (B0 G3 (dC (.int 3)) (A6 3))) (A6 0)) (A5 (dC (.int 26)) A7))))))))) (B4 (D3 6 (B0 bm8 (bp5 (A6 6) J8 (E3 (A9 B3 (A5 (A6 0) (A5 (B0 C5 (B0 C5 (A6 1) (dC (.int 3))) (B0 G3 (dC (.int 3)) (A6 5))) (A5 (dC (.int 3)) A7)))))) (dIx (qN (A5 (dC (.int 1)) (A5 (dC (.int 2)) A7))) (A9 B3 (A5 (A6 0) (A5 (B0 C5 (B0 C5 (A6 1) (dC (.int 2))) (B0 G3 (dC (.int 3)) (A6 5))) (A5 (dC (.int 2)) A7))))))) (T1 4 (dIx (qN (A5 (B0 C5 (A6 6) (ac0 (dC (.str "abcdefghijklmn")) (A6 5))) (A5 (B0 C5 (ac0 (dC (.str "abcdefghijklmn")) (A6 5)) (A6 6)) A7))) (r8 (A6 3))))))) (ak6 4 (B5 (A6 4))))))
def u5 : List D → Option D:=F8 aG6 7
def ac7 : DS:=(D3 4 (A9 L0 (A5 (A6 0) (A5 (A6 1) A7))))
def ac6 : DS:=(D3 5 (B0 gtI (A9 B3 (A5 (A6 0) (A5 (B0 C5 (A6 1) (dC (.int 3))) (A5 (dC (.int 6)) A7)))) (dC (.int 0))))
def V2 : DS:=(sIf (tB2 eqD (A9 B3 (A5 (A6 0) (A5 (B0 C5 (A6 1) (dC (.int 4))) (A5 (dC (.int 6)) A7)))) (dC (.int 0))) (B5 (C2 (A5 (dC (.str "tone")) (A5 (A6 2) (A5 (dIx (qN (A5 (dC (.str "turn")) (A5 (dC (.str "grey")) (A5 (dC (.str "round")) A7)))) (A9 B3 (A5 (A6 0) (A5 (B0 C5 (A6 1) (dC (.int 5))) (A5 (dC (.int 3)) A7))))) (A5 (A6 4) (A5 (A6 5) A7))))))) C7)
def ac5 : DS:=(D3 6 (dIx (qN (A5 (dC (.str "over")) (A5 (dC (.str "multiply")) (A5 (dC (.str "screen")) (A5 (dC (.str "plus")) (A5 (dC (.str "atop")) (A5 (dC (.str "cut")) A7))))))) (A9 B3 (A5 (A6 0) (A5 (B0 C5 (A6 1) (dC (.int 5))) (A5 (dC (.int 6)) A7))))))
def i9 : DS:=(sIf (tB2 gtI (A9 B3 (A5 (A6 0) (A5 (B0 C5 (A6 1) (dC (.int 6))) (A5 (dC (.int 3)) A7)))) (dC (.int 0))) (D3 6 (A6 3)) C7)
def ac4 : DS:=(D3 7 (B0 C5 (dC (.int 1)) (A9 B3 (A5 (A6 0) (A5 (B0 C5 (A6 1) (dC (.int 7))) (A5 (dC (.int 3)) A7))))))
def ac3 : DS:=(D3 8 (B0 C5 (dC (.int 1)) (A9 B3 (A5 (A6 0) (A5 (B0 C5 (A6 1) (dC (.int 8))) (A5 (dC (.int 3)) A7))))))
def ac2 : DS:=(D3 9 (dC .none))
def i6 : DS:=(sIf (tB2 eqD (A9 B3 (A5 (A6 0) (A5 (B0 C5 (A6 1) (dC (.int 9))) (A5 (dC (.int 3)) A7)))) (dC (.int 0))) (D3 9 (N6 (qN (D2 1 [0,1] (K0 (B0 G3 (A6 7) (A6 8))) (C9 0) F7 (A9 L0 (A5 (A6 1) (A5 (B0 C5 (B0 C5 (A6 2) (dC (.int 20))) (B0 G3 (dC (.int 3)) (A6 0))) A7))))))) C7)
def ac1 : DS:=(D3 10 (B0 aj5 (A9 B3 (A5 (A6 0) (A5 (B0 C5 (A6 1) (dC (.int 10))) (A5 (dC (.int 4)) A7)))) (dC (.int 1))))
def v4 : DS:=(D3 11 (B0 aj5 (A9 B3 (A5 (A6 0) (A5 (B0 C5 (A6 1) (dC (.int 11))) (A5 (dC (.int 4)) A7)))) (dC (.int 1))))
def W6 : DS:=(sIf (tB2 eqD (A9 B3 (A5 (A6 0) (A5 (B0 C5 (A6 1) (dC (.int 12))) (A5 (dC (.int 3)) A7)))) (dC (.int 0))) (x3 (C2 (A5 (dC (.int 3)) (A5 (dC (.int 3)) (A5 (dC (.int 0)) (A5 (dC (.int 0)) (A5 (dC .none) A7)))))) (R6 5 (K1 (C9 7) (K1 (C9 8) (K1 (C9 10) (K1 (C9 11) (K1 (C9 9) S6))))))) C7)
def u9 : DS:=(D3 12 (A9 u4 (A5 (A6 0) (A5 (B0 C5 (A6 1) (dC (.int 50))) (A5 (A6 7) (A5 (A6 8) A7))))))
def u8 : DS:=(B5 (C2 (A5 (dC (.str "layer")) (A5 (A6 2) (A5 (A6 6) (A5 (A6 4) (A5 (A6 5) (A5 (A6 10) (A5 (A6 11) (A5 (A6 9) (A5 (A6 12) A7)))))))))))
def aA7 : DS:=(B4 ac7 (B4 ac6 (B4 V2 (B4 ac5 (B4 i9 (B4 ac4 (B4 ac3 (B4 ac2 (B4 i6 (B4 ac1 (B4 v4 (B4 W6 (B4 u9 u8)))))))))))))
def c7 : List D → Option D:=F8 aA7 13
def aG5 : DS:=(B4 (D3 4 (dIx (qN (A5 (dC (.str "over")) (A5 (dC (.str "multiply")) (A5 (dC (.str "screen")) (A5 (dC (.str "plus")) A7))))) (A9 B3 (A5 (A6 0) (A5 (A6 1) (A5 (dC (.int 4)) A7)))))) (B4 (D3 5 (A9 B3 (A5 (A6 0) (A5 (B0 C5 (A6 1) (dC (.int 1))) (A5 (B0 C5 (A6 2) (dC (.int 1))) A7))))) (B4 (U4 6 (D2 1 [0,4,3,1] (K0 (A6 5)) (C9 0) F7 (A9 c7 (A5 (A6 1) (A5 (B0 C5 (B0 C5 (A6 4) (dC (.int 20))) (B0 G3 (dC (.int 170)) (A6 0))) (A5 (dIx (B1 3) (A6 0)) (A5 (A6 2) A7))))))) (B4 (W3 (K0 (A9 B3 (A5 (A6 0) (A5 (B0 C5 (A6 1) (dC (.int 2))) (A5 (dC (.int 3)) A7))))) (C9 7) (B4 (D3 8 (A9 B3 (A5 (A6 0) (A5 (B0 C5 (B0 C5 (A6 1) (dC (.int 3))) (B0 G3 (dC (.int 5)) (A6 7))) (A5 (B0 C5 (E5 (B1 6)) (dC (.int 1))) A7))))) (B4 (D3 9 (B0 C5 (A6 8) (A9 B3 (A5 (A6 0) (A5 (B0 C5 (B0 C5 (A6 1) (dC (.int 4))) (B0 G3 (dC (.int 5)) (A6 7))) (A5 (dC (.int 3)) A7)))))) (B4 (D3 10 (dIx (qN (A5 (C2 (A5 (dC (.int 1)) (A5 (dC (.int 1)) A7))) (A5 (A9 L0 (A5 (A6 0) (A5 (B0 C5 (B0 C5 (A6 1) (dC (.int 5))) (B0 G3 (dC (.int 5)) (A6 7))) A7))) A7))) (A9 B3 (A5 (A6 0) (A5 (B0 C5 (B0 C5 (A6 1) (dC (.int 6))) (B0 G3 (dC (.int 5)) (A6 7))) (A5 (dC (.int 2)) A7)))))) (B4 (D3 11 (dIx (qN (A5 (A6 4) (A5 (dC (.str "atop")) (A5 (A6 4) (A5 (dC (.str "cut")) A7))))) (A9 B3 (A5 (A6 0) (A5 (B0 C5 (B0 C5 (A6 1) (dC (.int 7))) (B0 G3 (dC (.int 5)) (A6 7))) (A5 (dC (.int 4)) A7)))))) (B4 (D3 12 (C2 (A5 (dC (.str "group")) (A5 (dIx (B1 3) (B0 C5 (A6 2) (A6 7))) (A5 (A6 11) (A5 (A6 10) (A5 (B0 gtI (A9 B3 (A5 (A6 0) (A5 (B0 C5 (B0 C5 (A6 1) (dC (.int 14))) (A6 7)) (A5 (dC (.int 7)) A7)))) (dC (.int 0))) A7))))))) (bu9 6 (E3 (A6 8)) (E3 (A6 9)) (A5 (B0 C5 (A6 12) (C2 (A5 (N6 (qE (bp6 (B1 6) (E3 (A6 8)) (E3 (A6 9))))) A7))) A7)))))))) (B5 (N6 (B1 6)))))))
def ah9 : List D → Option D:=F8 aG5 13
def au0 : DS:=(B4 (D3 4 (B0 C5 (dC (.int 1)) (A9 B3 (A5 (A6 0) (A5 (A6 1) (A5 (dC (.int 3)) A7)))))) (B4 (D3 5 (B0 C5 (dC (.int 1)) (A9 B3 (A5 (A6 0) (A5 (B0 C5 (A6 1) (dC (.int 1))) (A5 (dC (.int 3)) A7)))))) (B5 (C2 (A5 (A6 4) (A5 (A6 5) (A5 (A9 ah9 (A5 (A6 0) (A5 (B0 C5 (A6 1) (dC (.int 2))) (A5 (A6 2) (A5 (A6 3) A7))))) A7)))))))
def V9 : List D → Option D:=F8 au0 6
end Sh
namespace G
open PySem PySem.Spec PyProof.Rows L2
section
variable {X : Cx}
def aB7 (f g : Rho → Option (Bool × List D)) : Rho → Option (List D):=fun ρ=>(f ρ).bind fun p=>(g ρ).bind fun q=>if p.1 = false ∧ q.1 = false ∧ p.2.length + q.2.length ≤ 16777216 then some (p.2 ++ q.2) else none
theorem ch1 {a b : Expr} {f g : Rho → Option (Bool × List D)} {pos : Pos} (ha : JQ X a f) (hb : JQ X b g) : JN X (.BinOp a .Add b pos) (aB7 f g):=fun ρ out q=>by
 obtain ⟨⟨t1,xs⟩,e1,q⟩:=Option.bind_eq_some_iff.mp q
 obtain ⟨⟨t2,ys⟩,e2,q⟩:=Option.bind_eq_some_iff.mp q
 split at q
 ·rename_i c
  obtain ⟨c1,c2,c3⟩:=c
  simp only at c1 c2 c3
  subst c1 c2
  cases q
  refine D4 (bS1 bf1 (ha ρ _ _ e1) (hb ρ _ _ e2)) fun σ H Q ⟨H0,Hf,s,sl,k⟩=>?_
  refine ⟨H0,Hf,s,sl,fun v H1 Hf1 g1 ⟨p,vs,z1,z2,z3⟩=>⟨H0,Hf1,g1.sub,sl.grow g1,fun u H2 Hf2 g2 ⟨p',us,z1',z2',z3'⟩=>?_⟩⟩
  subst z1 z1'
  refine ⟨p,p',vs,us,rfl,rfl,G2 g2.big z2,z2',by rw [z3.length,z3'.length,sizeLine_eq]; exact c3,fun n hn=>?_⟩
  exact k _ _ _ ((g1.trans g2).trans (Grow.made g2.sub hn)) ⟨n,vs ++ us,rfl,(g1.trans g2).big.free hn,D6,g2.sub.free hn,(z3.mono g2.ext).append z3'⟩
 ·cases q
end
end G
namespace Sh
open PySem PySem.Spec PyProof.Rows L2 G
def ab7 : DS:=(B5 (B0 eqD (A9 S9 (A5 (A6 0) A7)) (dC (.str "group"))))
def M8 : List D → Option D:=F8 ab7 1
def at1 : DS:=(B5 (dIx (B1 0) (dC (.int 1))))
def M0 : List D → Option D:=F8 at1 1
def aA6 : DS:=(B4 (W3 (bB9 (qE (A6 0))) (R6 2 (K1 (C9 2) (K1 (C9 3) S6))) (sIf (tB2 eqD (A9 M0 (A5 (A6 3) A7)) (A6 1)) (B5 (A6 2)) C7)) (B5 (dC .none)))
def aB2 : List D → Option D:=F8 aA6 4
def aM8 (self : List D → Option D) : DS:=(B4 (sIf (tB2 bK8 (A9 aB2 (A5 (A6 0) (A5 (A6 1) A7))) (dC .none)) (B5 (A6 0)) C7) (B4 (W3 (F0 (A6 0)) (C9 2) (sIf (C3 (A9 M8 (A5 (A6 2) A7))) (B4 (D3 3 (A9 self (A5 (A9 J5 (A5 (A6 2) A7)) (A5 (A6 1) A7)))) (sIf (tB2 bK8 (A6 3) (dC .none)) (B5 (A6 3)) C7)) C7)) (B5 (dC .none))))
def aN0 : Nat → List D → Option D
 | 0=>fun _=>none
 | k + 1=>F8 (aM8 (aN0 k)) 4
def aw0 (self : List D → Option D) : DS:=(B4 (U4 1 A7) (B4 (W3 (F0 (A6 0)) (C9 2) (B4 (T1 1 (A6 2)) (sIf (tB2 eqD (dIx (B1 2) (dC (.int 0))) (dC (.str "group"))) (U4 1 (aB7 (B1 1) (qE (A9 self (A5 (dIx (B1 2) (dC (.int 5))) A7))))) C7))) (ak6 1 (B5 (A6 1)))))
def G7 : Nat → List D → Option D
 | 0=>fun _=>none
 | k + 1=>F8 (aw0 (G7 k)) 3
end Sh
namespace G
open PySem PySem.Spec PyProof.Rows L2
section
variable {X : Cx}
theorem bP5 (l b : Addr) (xs ys : Array Value) (n m : Nat) (dd : Option Addr) (sl : Array (Option Value)) (h0 : ¬(!xs.isEmpty && Builtin.List.listTooLong (xs.size + ys.size)) = true) (h1 : xs.size ≤ sizeLine) (h2 : xs.size + ys.size ≤ sizeLine + 1) :
  Meets (Builtin.«list.extend» ⟨[.ref l,.ref b],[]⟩) (fun _ R s=>s.heap.get? l = some { cls:=.type "list", data:=.seq xs n } ∧ s.heap.get? b = some ⟨.type "list", dd,.seq ys m,sl⟩ ∧
   R (.ok (.ret Value.none)) { s with heap:=s.heap.update l (Obj.mapSeq fun x=>x ++ ys),toks:=s.toks }) :=
 .of_wp fun prog w A R s h=>by
  obtain ⟨hp,g,d,tk,os⟩:=s
  obtain ⟨hl,hb,h⟩:=h
  have f1:=AutoSeq1.idx_int
  have f2:=AutoSeq1.sub_tuple_tuple
  have f3:=AutoSeq1.sub_list_list
  have f4:=AutoSeq1.sub_tuple_list
  have f5:=AutoSeq1.sub_list_tuple
  have hz' : (xs ++ ys).size ≤ sizeLine + 1:=by rw [Array.size_append]; exact h2
  wp_walk using (wpAny_updateSeq hl rfl (hz:=h1) (_hz':=hz')),AutoSeq1.wpAny_loadPart' hl,AutoSeq1.wpAny_loadPart' hb
  exact ⟨_,rfl,h⟩
theorem bP4 (l b : Addr) (xs ys : Array Value) (n m : Nat) (dd : Option Addr) (sl : Array (Option Value)) (h0 : ¬(!xs.isEmpty && Builtin.List.listTooLong (xs.size + ys.size)) = true) (h1 : xs.size ≤ sizeLine) (h2 : xs.size + ys.size ≤ sizeLine + 1) :
  Meets (Builtin.«list.extend» ⟨[.ref l,.ref b],[]⟩) (fun _ R s=>s.heap.get? l = some { cls:=.type "list", data:=.seq xs n } ∧ s.heap.get? b = some ⟨.type "tuple", dd,.seq ys m,sl⟩ ∧
   R (.ok (.ret Value.none)) { s with heap:=s.heap.update l (Obj.mapSeq fun x=>x ++ ys),toks:=s.toks }) :=
 .of_wp fun prog w A R s h=>by
  obtain ⟨hp,g,d,tk,os⟩:=s
  obtain ⟨hl,hb,h⟩:=h
  have f1:=AutoSeq1.idx_int
  have f2:=AutoSeq1.sub_tuple_tuple
  have f3:=AutoSeq1.sub_list_list
  have f4:=AutoSeq1.sub_tuple_list
  have f5:=AutoSeq1.sub_list_tuple
  have hz' : (xs ++ ys).size ≤ sizeLine + 1:=by rw [Array.size_append]; exact h2
  wp_walk using (wpAny_updateSeq hl rfl (hz:=h1) (_hz':=hz')),AutoSeq1.wpAny_loadPart' hl,AutoSeq1.wpAny_loadPart' hb
  exact ⟨_,rfl,h⟩
def cw2 (K : PySem.W.Frag) : V → List V → Hp → VK → Prop:=fun x vs H Q=>∃ l b xs zs,x = .ref l ∧ vs = [.ref b] ∧ H l = some (.lst xs) ∧ (SqL K H b zs ∨ SqT K H b zs) ∧ xs.length + zs.length ≤ sizeLine ∧ Q .non (upd H l (.lst (xs ++ zs)))
theorem by6 : MtM X "list.extend" (cw2 X.K):=by
 intro pins s σ H x vs v us Q I rx rv h
 obtain ⟨l,b,xs,zs,rfl,rfl,hH,hB,hz,q⟩:=h
 cases rx
 obtain ⟨u,rfl,ru⟩:=rv.one
 cases ru
 obtain ⟨z,its,n,r,hl,e⟩:=I.lstM hH
 rcases hB with hB | hB
 ·obtain ⟨its2,r2,pl,_⟩:=I.list hB
  obtain ⟨⟨cls,dd,data,sl⟩,ho,hc,m,hd⟩:=pl.isList
  simp only at hc hd
  subst hc hd
  have hl2:=r2.length
  have hsz : its.toArray.size + its2.toArray.size ≤ sizeLine:=by rw [List.size_toArray,List.size_toArray]; omega
  have hlong : ¬ (!its.toArray.isEmpty && Builtin.List.listTooLong (its.toArray.size + its2.toArray.size)) = true:=by
   rw [ad8 hsz,Bool.and_false]; exact Bool.false_ne_true
  refine call_meets F.slot_list_extend ⟨_,e,rfl⟩ F.entry_list_extend (F.args_list_extend_2 _ _) (bP5 l b its.toArray its2.toArray n m dd sl hlong (by rw [List.size_toArray]; omega) (by omega)) ⟨e,ho,?_⟩
  refine ⟨.non,_,I.lset (its':=its ++ its2) hH e (by simp) (r.append r2) ?_,rfl,q⟩
  rw [List.length_append]; omega
 ·obtain ⟨its2,r2,pl,_⟩:=I.tuple hB
  obtain ⟨⟨cls,dd,data,sl⟩,ho,hc,m,hd⟩:=pl
  simp only at hc hd
  subst hc hd
  have hl2:=r2.length
  have hsz : its.toArray.size + its2.toArray.size ≤ sizeLine:=by rw [List.size_toArray,List.size_toArray]; omega
  have hlong : ¬ (!its.toArray.isEmpty && Builtin.List.listTooLong (its.toArray.size + its2.toArray.size)) = true:=by
   rw [ad8 hsz,Bool.and_false]; exact Bool.false_ne_true
  refine call_meets F.slot_list_extend ⟨_,e,rfl⟩ F.entry_list_extend (F.args_list_extend_2 _ _) (bP4 l b its.toArray its2.toArray n m dd sl hlong (by rw [List.size_toArray]; omega) (by omega)) ⟨e,ho,?_⟩
  refine ⟨.non,_,I.lset (its':=its ++ its2) hH e (by simp) (r.append r2) ?_,rfl,q⟩
  rw [List.length_append]; omega
theorem cg5 (i : Nat) {x : Str} {e : Expr} {f : DE} {p apos cpos pos : Pos} (h : JE X e f) (hN : X.N[i]? = some x) (hv : Vis X.env.scope x) (hd : (x == ("__debug__" : Str)) = false)
  (hcd : (x == ("__classdict__" : Str)) = false) (hline : (apos.endLine == cpos.line) = true) (hs : starEach [e] X.env = [(false,eval e X.env)]) :
  JS X (.Expr (.Call (.Attribute (.Name x p) "extend" apos) [e] [] cpos) pos) (aX0 i f):=fun ρ fl q H0 Hf0=>by
 unfold aX0 at q
 split at q
 ·rename_i ds eo
  obtain ⟨d,e1,q⟩:=Option.bind_eq_some_iff.mp q
  split at q
  ·rename_i es
   split at q
   ·rename_i hz
    cases q
    refine P2 (aI3 (be9 PySem.F.plainAttrs_list PySem.F.slot_list_extend PySem.F.type_list_extend by6 (ak8 hN hv hd hcd) (E6 (h ρ _ e1) J7 hs) rfl (by rw [hs]; rfl) hline hs) rfl) fun En σ H ⟨Hf,a,ee⟩=>?_
    obtain ⟨v,h1,b,vs,rfl,h2,h3,h4,h5⟩:=a.sl.is i _ eo
    refine ⟨_,h1,.inl ⟨rfl,vs,SqL.of h2⟩,H0,Hf,a.gr.sub,a.sl,fun w H' Hf' gg r=>?_⟩
    obtain ⟨b2,us,rfl,r1,r2⟩:=r
    have hb : H' b = some (.lst vs):=gg.big _ _ h2
    have hfb : Hf' b = none:=gg.nofr h2 h3
    have g2:=a.gr.trans gg
    have sl2:=a.sl.grow gg
    refine ⟨b,b2,vs,us,rfl,rfl,hb,.inl (G2 gg.sub r1),by rw [h5.length,r2.length,sizeLine_eq]; exact hz,ee _ _ Hf' ⟨⟨fun c u z=>?_,fun c u z=>?_,g2.ext,g2.new⟩,?_⟩ gg.ext⟩
    ·rw [D7 (D8 z h4)]; exact g2.big c u z
    ·rw [D7 (D8 z hfb)]; exact g2.sub c u z
    ·exact sl2.reOwn eo h1 hfb h4 ((h5.mono gg.ext).append r2)
   ·cases q
  ·rename_i es
   split at q
   ·rename_i hz
    cases q
    refine P2 (aI3 (be9 PySem.F.plainAttrs_list PySem.F.slot_list_extend PySem.F.type_list_extend by6 (ak8 hN hv hd hcd) (E6 (h ρ _ e1) J7 hs) rfl (by rw [hs]; rfl) hline hs) rfl) fun En σ H ⟨Hf,a,ee⟩=>?_
    obtain ⟨v,h1,b,vs,rfl,h2,h3,h4,h5⟩:=a.sl.is i _ eo
    refine ⟨_,h1,.inl ⟨rfl,vs,SqL.of h2⟩,H0,Hf,a.gr.sub,a.sl,fun w H' Hf' gg r=>?_⟩
    obtain ⟨b2,us,rfl,r1,r2⟩:=r
    have hb : H' b = some (.lst vs):=gg.big _ _ h2
    have hfb : Hf' b = none:=gg.nofr h2 h3
    have g2:=a.gr.trans gg
    have sl2:=a.sl.grow gg
    refine ⟨b,b2,vs,us,rfl,rfl,hb,.inr (E2 gg.sub r1),by rw [h5.length,r2.length,sizeLine_eq]; exact hz,ee _ _ Hf' ⟨⟨fun c u z=>?_,fun c u z=>?_,g2.ext,g2.new⟩,?_⟩ gg.ext⟩
    ·rw [D7 (D8 z h4)]; exact g2.big c u z
    ·rw [D7 (D8 z hfb)]; exact g2.sub c u z
    ·exact sl2.reOwn eo h1 hfb h4 ((h5.mono gg.ext).append r2)
   ·cases q
  ·cases q
 ·cases q
end
end G
namespace G
open PySem PySem.Spec PyProof.Rows L2
def aT4 (a : List Str) (x : Str) : List Str:=if a.any (· == x) then a else a ++ [x]
def ddN (v : Nat → Str) (i : Nat) : List Str:=((List.range i).map v).foldl aT4 []
def ddS (l : List Str) : List Str:=l.foldl aT4 []
theorem az6 (v : Nat → Str) (i : Nat) : ddN v (i + 1) = aT4 (ddN v i) (v i):=by
 unfold ddN
 rw [List.range_succ,List.map_append,List.foldl_append]
 rfl
theorem bE5 (v : Nat → Str) : ∀ i,(ddN v i).length ≤ i
 | 0=>Nat.le_refl 0
 | i + 1=>by
  have ih:=bE5 v i
  rw [az6]
  unfold aT4
  split
  ·omega
  ·rw [List.length_append,List.length_singleton]
   omega
theorem ck7 (a : List Str) (x y : Str) : (aT4 a x).any (· == y) = (a.any (· == y) || decide (y = x)):=by
 unfold aT4
 by_cases q : a.any (· == x) = true
 ·rw [if_pos q]
  by_cases e : y = x
  ·subst e; rw [q]; simp
  ·simp [e]
 ·rw [if_neg q,List.any_append]
  by_cases e : y = x
  ·subst e; simp
  ·have : (x == y) = false:=by simpa [beq_iff_eq] using fun z : x = y=>e z.symm
   simp [this,e]
theorem ck6 (a : List Str) (x : Str) : (aT4 a x).length = if a.any (· == x) then a.length else a.length + 1:=by
 unfold aT4
 split <;> simp
theorem ck8 (l : List Str) (d : Str) : ddN (fun i=>l.getD i d) l.length = ddS l:=by
 unfold ddN ddS
 congr 1
 refine List.ext_getElem? fun i=>?_
 rw [List.getElem?_map]
 by_cases hi : i < l.length
 ·rw [List.getElem?_range hi,List.getElem?_eq_getElem hi]
  simp [List.getD,List.getElem?_eq_getElem hi]
 ·rw [List.getElem?_eq_none (by simpa using hi),List.getElem?_eq_none (by simpa using hi)]
  rfl
section
variable {prog : Program} {w : World} {A : Around} {R : Result → Shared → Prop} {J : Addr} {fp wr : List Addr} {Gn : Array GenState → Array GenState → Prop} {n : Nat} {P : Nat → Value → Prop} {St : Nat → Shared → Prop}
theorem bu8 (W : WalksS prog w A.in1 J fp wr Gn n P St) (S : Addr) (hS1 : S ∉ fp) (v : Nat → Str) (hv : ∀ i u,P i u → ∃ t,u = .str (v i) t) (hb : n + 1 < scanBound) :
  ∀ (k i : Nat) (s : Shared),n - i = k → i ≤ n → St i s → s.heap.SetOf (strKind prog w) S (fun y=>(ddN v i).any (· == y)) (ddN v i).length →
   (∀ s',Moved (S :: wr) Gn s s' → s'.heap.SetOf (strKind prog w) S (fun y=>(ddN v n).any (· == y)) (ddN v n).length → R (.ok (.ret .none)) s') →
   codeAny (model prog w) A (.builtin "set.update.loop" ⟨[.ref S,.ref J],[]⟩) R s:=by
 have hS2 : S ∉ wr:=fun z=>hS1 (W.sub _ z)
 have more : ∀ b ∈ wr,b ∈ S :: wr:=fun b z=>List.mem_cons_of_mem _ z
 intro k
 induction k with
 | zero =>
  intro i s e1 e2 q1 q2 q3
  obtain rfl : i = n:=by omega
  refine codeAny_builtin PyProof.Rows.F.entry_set_update_loop ?_
  rw [Around.under_plainId PyProof.Rows.F.plain_set_update_loop _]
  show wpAny _ _ (pyNext (.ref J) >>= _) _ _ _
  refine wpAny_bind (W.done s _ _ q1 fun s' mv=>?_)
  show wpAny _ _ (ret Value.none) _ _ _
  refine wpAny_pure (q3 s' (mv.mono more) ?_)
  obtain ⟨o,es,ep,tb,ho,more'⟩:=q2
  exact ⟨o,es,ep,tb,mv.heap S _ hS2 ho,more'⟩
 | succ k ih =>
  intro i s e1 e2 q1 q2 q3
  have lt : i < n:=by omega
  refine codeAny_builtin PyProof.Rows.F.entry_set_update_loop ?_
  rw [Around.under_plainId PyProof.Rows.F.plain_set_update_loop _]
  show wpAny _ _ (pyNext (.ref J) >>= _) _ _ _
  refine wpAny_bind (W.item i s _ _ lt q1 fun u s' hP q1' mv=>?_)
  obtain ⟨t,rfl⟩:=hv i u hP
  have q2' : s'.heap.SetOf (strKind prog w) S (fun y=>(ddN v i).any (· == y)) (ddN v i).length:=by
   obtain ⟨o,es,ep,tb,ho,more'⟩:=q2
   exact ⟨o,es,ep,tb,mv.heap S _ hS2 ho,more'⟩
  show wpAny _ _ (holding [Value.str (v i) t] (setAdd S (.str (v i) t)) >>= _) _ _ _
  refine wpAny_bind (wpAny_holding ?_)
  unfold setAdd
  refine wpAny_holding (wpAny_bind ((strKind prog w).pyHash (k:=v i) (strKind_is _ _ _ _) ?_))
  have room : (ddN v i).length + 1 < scanBound:=by have:=bE5 v i; omega
  refine wpAny_setAddHashed_of (knd:=strKind prog w) (s:={ s' with toks:=s'.toks + 1 }) (strKind_is _ _ _ _) rfl q2' room fun h' sb q4=>?_
  have q5 : h'.SetOf (strKind prog w) S (fun y=>(ddN v (i + 1)).any (· == y)) (ddN v (i + 1)).length:=SetOf_congr q4 (fun y=>by rw [az6,ck7]) (by rw [az6,ck6])
  refine wpAny_pure ⟨plainId_quiet PyProof.Rows.F.plain_set_update_loop _,ih (i + 1) _ (by omega) lt (W.frame _ s' _ _ q1' (Nat.le_succ _) fun b z o e=>?_) q5 fun s2 mv2 q6=>?_⟩
  ·rw [sb.2 b (fun y : b = S=>hS1 (by rw [← y]; exact z))]; exact e
  ·refine q3 s2 (Moved.trans W.gtrans ((mv.mono more).then_heap (Nat.le_succ _) fun b o z e=>?_) mv2) q6
   rw [sb.2 b (fun y : b = S=>z (by rw [y]; exact List.mem_cons_self))]; exact e
end
section
variable {prog : Program} {w : World} {A : Around} {E : Value → Shared → Prop} {s : Shared}
abbrev T6 (b : Bool) : Obj:={ cls:=.type "set", dict:=none,data:=.set #[] 0 (.fresh 0 0 b) }
theorem aO4 {l : Addr} {its : Array Value} {xs : List Str} {Q : Value → Shared → Prop} (hh : A.handled = none) (hl : s.heap.IsList l its) (hi : ∀ (i : Nat) (u : Value),its[i]? = some u → ∃ t,u = .str (xs.getD i "") t) (hb : its.size + 1 < scanBound)
  (h : ∀ (h' : Heap) (tk : Nat),h'.SetOf (strKind prog w) s.heap.objs.size (fun y=>(ddN (fun i=>xs.getD i "") its.size).any (· == y)) (ddN (fun i=>xs.getD i "") its.size).length →
   (∀ b o,b < s.heap.objs.size → s.heap.get? b = some o → h'.get? b = some o) → Q (.ref s.heap.objs.size) { s with heap:=h',toks:=tk }) :
  wpAny (model prog w) A (call (.type "set") [.ref l]) Q E s:=by
 obtain ⟨c,tl,hmro⟩:=F.called_set.mro
 have hmade:=F.called_set.made
 have hsub:=F.called_set.sub
 refine wpAny_call (codeAny_of_tree ?_)
 show wpAny _ _ (callAny (.type "set") _) _ _ _
 refine wpAny_pure ⟨Code.quiet_builtin _ (by decide +kernel),codeAny_builtin F.entry_type_call ?_⟩
 rw [Around.under_plain (weight_type_call_type "set" [.ref l] []) rfl]
 have n1:=F.called_set.notType
 have n2:=F.called_set.canCreate
 have n3:=F.typeCall_set_1 (.ref l)
 repeat (any_goals (first | assumption | wp_step))
 refine codeAny_mono (code_set_new_1 (.ref l) (E:=E) (Q₁:=fun ob s1=>∃ b : Bool,ob = .ref s.heap.objs.size ∧ s1 = { s with heap:=s.heap.push (T6 b) }) fun b=>⟨b,rfl,rfl⟩) fun r s1 hr=>?_
 cases r with
 | error e=>exact hr
 | ok fl =>
  cases fl with
  | ret ob =>
   obtain ⟨b,rfl,rfl⟩:=hr
   have g0 : (s.heap.push (T6 b)).get? s.heap.objs.size = some (T6 b):=Heap.get?_push_size _ rfl
   have hT : Shared.TypeIs { s with heap:=s.heap.push (T6 b) } (.ref s.heap.objs.size) "set" := ⟨_,g0,rfl⟩
   have li:=F.called_set.init.lookup
   have bi:=F.called_set.init.bind (.ref s.heap.objs.size)
   repeat (any_goals (first | assumption | wp_step))
   refine codeAny_mono (codeAny_call_builtin (R:=wants (fun r s2=>r = .none ∧ ∃ h' tk,s2 = { s with heap:=h',toks:=tk } ∧ h'.SetOf (strKind prog w) s.heap.objs.size (fun y=>(ddN (fun i=>xs.getD i "") its.size).any (· == y)) (ddN (fun i=>xs.getD i "") its.size).length ∧
     (∀ b o,b < s.heap.objs.size → s.heap.get? b = some o → h'.get? b = some o)) E) F.called_set.init.plain F.entry_set_init (check_set_init_1 hT ?_)) fun r2 s2 hr2=>?_
   ·obtain ⟨⟨c0,d0,dt0,sl0⟩,hol,hcl,nl,hdl⟩:=hl
    simp only at hcl hdl
    subst hcl hdl
    have hol' : (s.heap.push (T6 b)).get? l = some { cls:=.type "list", dict:=d0,data:=.seq its nl,slots:=sl0 }:=Heap.get?_push_of_some _ hol
    have f1:=F.sub_list_set
    have f2:=F.sub_list_frozenset
    have f3 : (Value.type "list" == Value.type "dict") = false:=by decide
    have hl1 : (s.heap.push (T6 b)).IsList l its:=⟨_,hol',rfl,nl,rfl⟩
    unfold Builtin.«set.__init__» noKeywords Builtin.Frozenset.updateFrom
    generalize hPI : pyIter = PI
    wp_walk
    subst hPI
    refine wpAny_pyIter_list hl1 (wpAny_bind (wpAny_runValue ?_))
    have lS : l < s.heap.objs.size:=Heap.lt_size hol
    have h3 : A.in1.in1.in1.handled = none:=by simp [hh]
    have nI : l ≠ (s.heap.push (T6 b)).objs.size:=by
     rw [Heap.size_push]
     exact Nat.ne_of_lt (Nat.lt_succ_of_lt lS)
    have nf : s.heap.objs.size ∉ [(s.heap.push (T6 b)).objs.size,l]:=by
     rw [Heap.size_push]
     simp only [List.mem_cons,List.mem_singleton,List.not_mem_nil,or_false,not_or]
     exact ⟨Nat.ne_of_lt (Nat.lt_succ_self _),Nat.ne_of_gt lS⟩
    refine bu8 ((Walks.list h3 _ l nI its).toS) s.heap.objs.size nf (fun i=>xs.getD i "") hi hb (its.size - 0) 0 _ (by omega) (Nat.zero_le _) ⟨⟨_,Heap.get?_push_size _ rfl,rfl,rfl⟩,(hl1.push _)⟩ ?hS0 ?hR
    case hS0 =>
     have gt : ((s.heap.push (T6 b)).push { cls:=.type "list_iterator", data:=.fields #[.ref l,.int 0 0] }).get? s.heap.objs.size = some (T6 b):=Heap.get?_push_of_some _ g0
     exact SetOf_congr ((setObjOf_fresh (knd:=strKind prog w) b).setOf gt (by unfold scanBound; omega)) (fun _=>rfl) rfl
    case hR =>
     intro s' mv q
     obtain ⟨h',g',d',tk',os'⟩:=s'
     have eg : g' = s.gens:=mv.gens
     have ed : d' = s.drawn:=mv.drawn
     have eo : os' = s.os:=mv.os
     subst eg ed eo
     show wpAny _ _ _ _ _ _
     refine wpAny_pure ?_
     show wpAny _ _ (ret Value.none) _ _ _
     refine wpAny_pure ⟨rfl,h',tk',rfl,q,fun c o hc e=>?_⟩
     have c1 : c ≠ s.heap.objs.size:=Nat.ne_of_lt hc
     have c2 : c ≠ (s.heap.push (T6 b)).objs.size:=by
      rw [Heap.size_push]
      exact Nat.ne_of_lt (Nat.lt_succ_of_lt hc)
     exact mv.heap c o (by simp only [List.mem_cons,List.mem_singleton,List.not_mem_nil,or_false,not_or]; exact ⟨c1,c2⟩) (Heap.get?_push_of_some _ (Heap.get?_push_of_some _ e))
   ·cases r2 with
    | error e=>exact hr2
    | ok fl2 =>
     cases fl2 with
     | ret r =>
      obtain ⟨rfl,h',tk,rfl,q1,q2⟩:=hr2
      repeat (any_goals (first | assumption | wp_step))
      exact h _ _ q1 q2
     | _=>exact hr2.elim
  | _=>exact hr.elim
end
end G
namespace G
open PySem PySem.Spec PyProof.Rows L2
section
variable {X : Cx}
def SetO (X : Cx) (a : Addr) (n : Nat) : HO:=.ext fun h=>∃ S,h.SetOf (strKind X.prog X.w) a S n
theorem cl2 : bootBuiltins "set" = some (.type "set"):=by decide +kernel
theorem aN5 : ∀ {ys : List Str} {us : List Value},F6 (ys.map V.str) us → ∀ (i : Nat) (u : Value),us[i]? = some u → ∃ t,u = .str (ys.getD i "") t
 | [],[],_,i,u,h=>by simp at h
 | y :: ys,u :: us,h,i,v,e=>by
  cases h with
  | cons a b =>
   cases i with
   | zero =>
    simp only [xg0,Option.some.injEq] at e
    subst e
    obtain ⟨t,e⟩:=a
    exact ⟨t,e⟩
   | succ i =>
    simp only [xg1] at e
    obtain ⟨t,e'⟩:=aN5 b i v e
    exact ⟨t,e'⟩
theorem bp9 (hc : X.calm = true) : U2 X (.type "set") (fun xs H Q=>∃ p ys,xs = [.ref p] ∧ SqL X.K H p (ys.map V.str) ∧ ys.length ≤ 4000 ∧ ∀ l,H l = none → Q (.ref l) (upd H l (SetO X l (ddS ys).length))):=by
 intro pins s σ H xs us Q I r h
 obtain ⟨p,ys,rfl,hq,hz,q⟩:=h
 obtain ⟨u,rfl,rx⟩:=h9 r
 cases rx
 obtain ⟨its,rv,pl,_⟩:=I.list hq
 have hl : its.length = ys.length:=by have:=rv.length; rw [List.length_map] at this; exact this.symm
 have hs : its.toArray.size = ys.length:=by rw [List.size_toArray]; exact hl
 refine aO4 (xs:=ys) (I.ok.hd hc) pl.isList (fun i u e=>aN5 rv i u (by rw [List.getElem?_toArray] at e; exact e)) (by rw [hs]; unfold scanBound; omega) fun h' tk q1 q2=>?_
 rw [hs,ck8] at q1
 refine ⟨.ref _,_,I.laid (a:=s.heap.objs.size) (o:=SetO X s.heap.objs.size (ddS ys).length) (h':=h') (t':=tk) (fun b o e=>q2 b o (Heap.lt_size e) e) (Nat.le_refl _) ⟨⟨_,q1⟩,?_,?_⟩,rfl,q _ I.fresh⟩
 ·obtain ⟨o,es,ep,t,ho,_⟩:=q1
  exact ⟨o,ho⟩
 ·intro h1 h2 ⟨S,o,es,ep,t,ho,T2⟩ k
  exact ⟨S,o,es,ep,t,k o ho,T2⟩
theorem bq4 : U2 X (.builtin "len") (fun xs H Q=>∃ p n,xs = [.ref p] ∧ H p = some (SetO X p n) ∧ Q (.int n) H):=by
 intro pins s σ H xs us Q I r h
 obtain ⟨p,n,rfl,hp,q⟩:=h
 obtain ⟨u,rfl,rx⟩:=h9 r
 cases rx
 obtain ⟨⟨S,o,es,ep,t,ho,hex,hd,_,_,hb,hf,hn⟩,_,_⟩:=I.hok p _ hp
 have : es.size < 4096:=hb
 exact call_len_set ho hex hd hf (by omega) ⟨.int n,H,I.tok _,⟨_,by rw [hn]⟩,q⟩
def ah1 (f : Rho → Option (Bool × List D)) : DE:=fun ρ=>(f ρ).bind fun q=>if q.1 = true then none else (aD4 q.2).bind fun ys=>if ys.length ≤ 4000 then some (.int (ddS ys).length) else none
theorem bn3 {e : Expr} {f : Rho → Option (Bool × List D)} {p p2 pos pos2 : Pos} (hg : Gl X "len") (hm : X.mg "len" = none) (hg2 : Gl X "set") (hm2 : X.mg "set" = none) (h : JQ X e f) (hc : X.calm = true) (he : starEach [e] X.env = [(false,eval e X.env)]) :
  JE X (.Call (.Name "len" p) [.Call (.Name "set" p2) [e] [] pos2] [] pos) (ah1 f):=fun ρ d q=>by
 obtain ⟨⟨t,ds⟩,h1,q⟩:=Option.bind_eq_some_iff.mp q
 split at q
 ·cases q
 ·rename_i ht
  have ht : t = false:=by simpa using ht
  subst ht
  obtain ⟨ys,h2,q⟩:=Option.bind_eq_some_iff.mp q
  split at q
  ·rename_i hz
   cases q
   refine D4 (P8 bq4 hg hm bb5 (E6 (U5 (bp9 hc) hg2 hm2 cl2 (E6 (h ρ false ds h1) J7 he) (he:=he)) J7 rfl)) fun σ H Q ⟨H0,Hf,s,sl,k⟩=>?_
   refine ⟨H0,Hf,s,sl,fun v H1 Hf1 g1 ⟨a,vs,e1,e2,e3⟩=>⟨a,ys,by rw [e1],?_,hz,fun l hl=>⟨l,_,rfl,D6,?_⟩⟩⟩
   ·rw [← ar8 h2 e3]; exact e2
   ·exact k _ _ _ (g1.trans (Grow.made g1.sub hl)) rfl
  ·cases q
end
end G
namespace G
open PySem PySem.Spec PyProof.Rows L2
section
variable {X : Cx}
def cj8 (x y : Str) : Bool:=!(Builtin.Str.occurrences y x 0 y.length 1).isEmpty
def inS (neg : Bool) (x y : D) : Option D:=match x,y with
 | .str i,.str j=>some (.bool (if neg then !cj8 i j else cj8 i j))
 | _,_=>none
theorem cd3 : OpD X (compareOp .In) (inS false):=fun x y z h=>by
 cases x <;> cases y <;> first | (cases h; done) | skip
 rename_i i j
 cases h
 refine OpR.imp bk4 fun vx vy H Q ⟨Hf,s,rx,ry,k⟩=>?_
 cases rx
 cases ry
 exact ⟨i,j,rfl,rfl,k _ H Hf (Grow.refl s) rfl⟩
theorem bl0 : OpD X (compareOp .NotIn) (inS true):=fun x y z h=>by
 cases x <;> cases y <;> first | (cases h; done) | skip
 rename_i i j
 cases h
 refine OpR.imp aI5 fun vx vy H Q ⟨Hf,s,rx,ry,k⟩=>?_
 cases rx
 cases ry
 exact ⟨i,j,rfl,rfl,k _ H Hf (Grow.refl s) rfl⟩
def aF3 (f : DE) : DE:=fun ρ=>(f ρ).bind fun d=>match d with
 | .str x=>if x.length ≤ 16777216 then some (.int x.length) else none
 | _=>none
theorem bO5 {e : Expr} {f : DE} {p pos : Pos} (hg : Gl X "len") (hm : X.mg "len" = none) (h : JE X e f) (he : starEach [e] X.env = [(false,eval e X.env)]) : JE X (.Call (.Name "len" p) [e] [] pos) (aF3 f):=fun ρ d q=>by
 obtain ⟨y,h1,h2⟩:=Option.bind_eq_some_iff.mp q
 obtain ⟨x,rfl⟩ : ∃ x,y = .str x:=by
  cases y with
  | str x=>exact ⟨x,rfl⟩
  | _=>cases h2
 have h2 : (if x.length ≤ 16777216 then some (PyData.int x.length) else none) = some d:=h2
 split at h2
 ·rename_i hz
  cases h2
  refine D4 (P8 aL5 hg hm bb5 (E6 (h ρ _ h1) J7 he) (he:=he)) fun σ H Q ⟨H0,Hf,s,sl,k⟩=>?_
  refine ⟨H0,Hf,s,sl,fun v H1 Hf1 g1 r=>⟨x,?_,by rw [sizeLine_eq]; exact hz,k _ H1 Hf1 g1 rfl⟩⟩
  cases r; rfl
 ·cases h2
def Its (x : Str) : It:=⟨fun i _=>i < x.cps.size,fun i H v H'=>H' = H ∧ ∃ c,x.cps[i]? = some c ∧ v = .str ⟨#[c]⟩,fun i _=>x.cps.size ≤ i⟩
theorem bt4 {P : Program} {w : World} {K : PySem.W.Frag} {tg : Expr} (x : Str) (t : Tok) (it : Addr) : Turn P w K tg (Its x) [it] it (fun i h=>h.IsStrIter it "str_ascii_iterator" x t i) where
 mem:=by simp
 obj:=fun i h st b hb=>by
  have e : b = it:=by simpa using hb
  subst e
  obtain ⟨o,e,c,d⟩:=st
  exact ⟨o,e,fun v z=>by rw [d] at z; cases z⟩
 keep:=fun i h h' st k=>by
  obtain ⟨o,e,r⟩:=st
  exact ⟨o,k it (by simp) o e,r⟩
 item:=by
  intro X hP hw hK hc i pins s σ H E I hf st hg
  subst hP hw hK
  obtain ⟨f0,f1,f2,f3,f4,f5⟩:=hf it (by simp)
  have hi : i < x.cps.size:=hg
  refine wpAny_pyNext_ascii_item st (c:=x.cps[i]) (by simp [hi]) fun h' st' sb=>?_
  have I1 : Inv X pins σ H { s with heap:=h',toks:=s.toks + 1 }:=I.turned (t':=s.toks + 1) (fun b o hb e=>(sb.2 b hb).trans e) f0 f1 f3 f4 f5
  obtain ⟨o,e,c,d⟩:=id st'
  exact ⟨_,rfl,aR9 (s:={ s with heap:=h',toks:=s.toks + 1 }) e c d (by decide) ⟨.str ⟨#[x.cps[i]]⟩,H,I1,⟨_,rfl⟩,⟨rfl,_,by simp [hi],rfl⟩,st',fun b hb=>(hf b hb).1⟩⟩
 done:=by
  intro X hP hw hK hc i pins s σ H E I hf st hg
  subst hP hw hK
  obtain ⟨f0,f1,f2,f3,f4,f5⟩:=hf it (by simp)
  have hi : x.cps.size ≤ i:=hg
  exact wpAny_pyNext_ascii_end (I.ok.hd hc) st (by simp [hi]) fun h' eb=>⟨rfl,I.turned (t':=s.toks) (fun b o hb e=>eb b o hb e) f0 f1 f3 f4 f5⟩
 self:=fun _ _ _ _ _ st h=>wpAny_pyIter_striter_ascii st h
def aD7 (x : Str) : List D:=x.cps.toList.map fun c=>.str ⟨#[c]⟩
def aR8 (f : DE) : Rho → Option (List D):=fun ρ=>(f ρ).bind fun d=>match d with
 | .str x=>if x.cps.all (· < 128) = true then some (aD7 x) else none
 | _=>none
theorem ch3 {tg e : Expr} {f : DE} (h : JE X e f) : JI X tg e (aR8 f):=fun ρ ds q=>by
 obtain ⟨d,e1,e2⟩:=Option.bind_eq_some_iff.mp q
 obtain ⟨x,rfl⟩ : ∃ x,d = .str x:=by
  cases d with
  | str x=>exact ⟨x,rfl⟩
  | _=>cases e2
 have e2 : (if x.cps.all (· < 128) = true then some (aD7 x) else none) = some ds:=e2
 split at e2
 ·rename_i ha
  cases e2
  intro pins s σ H R I ⟨H0,Hf,ss,sl,k⟩
  refine thn (h ρ _ e1 pins s σ H (fun v H'=>∃ Hf',Grow H Hf H' Hf' ∧ v = .str x) I ⟨H0,Hf,ss,sl,fun v H' Hf' g r=>⟨Hf',g,r⟩⟩) fun v s1 ⟨y,H1,I1,r1,Hf1,g1,ey⟩=>?_
  subst ey
  obtain ⟨t,rfl⟩:=r1
  refine wpAny_pyIter_ascii ha ?_
  have I2 : Inv X pins σ H1 { s1 with heap:=s1.heap.push { cls:=.type "str_ascii_iterator", data:=.fields #[.str x t,.int 0 0] } }:=I1.kept (t':=s1.toks) fun b u e=>Heap.get?_push_of_some _ e
  refine ⟨_,_,_,Its x,H1,rfl,I2,bt4 x t s1.heap.objs.size,⟨_,Heap.get?_push_size _ rfl,rfl,rfl⟩,fun b hb=>?_,k _ H1 Hf1 g1 fun i H' Hf' sa sb=>⟨fun hi=>?_,fun d hd=>?_⟩⟩
  ·have hb' : s1.heap.objs.size ≤ b:=by rw [List.mem_singleton] at hb; rw [hb]; exact Nat.le_refl _
   exact I1.fpOk hb' (I1.hok.fresh hb')
  ·show x.cps.size ≤ i
   simpa [aD7] using hi
  ·unfold aD7 at hd
   rw [List.getElem?_map] at hd
   obtain ⟨c,c1,c2⟩:=Option.map_eq_some_iff.mp hd
   have c1' : x.cps[i]? = some c:=by rw [← Array.getElem?_toList]; exact c1
   refine ⟨(Array.getElem?_eq_some_iff.mp c1').1,fun v H'' ⟨h1,c',h2,h3⟩=>?_⟩
   subst h1 h3 c2
   rw [c1'] at h2
   cases h2
   exact ⟨Hf',Grow.refl sb,rfl⟩
 ·cases e2
end
end G
namespace G
open PySem PySem.Spec PyProof PyProof.Rows L2
section
variable {X : Cx}
def mnF (m x : Int) : Int:=if x < m then x else m
def mxF (m x : Int) : Int:=if x > m then x else m
def mnL : List Int → Int
 | []=>0
 | a :: r=>r.foldl mnF a
def mxL : List Int → Int
 | []=>0
 | a :: r=>r.foldl mxF a
theorem bf7 : ∀ (l : List Int) (z : Int),(l.foldl mnF z = z ∨ l.foldl mnF z ∈ l) ∧ l.foldl mnF z ≤ z ∧ ∀ a ∈ l,l.foldl mnF z ≤ a
 | [],z=>⟨.inl rfl,Int.le_refl _,fun a h=>by simp at h⟩
 | x :: l,z=>by
  obtain ⟨h1,h2,h3⟩:=bf7 l (mnF z x)
  rw [List.foldl_cons]
  have k : (mnF z x = z ∨ mnF z x = x) ∧ mnF z x ≤ z ∧ mnF z x ≤ x:=by unfold mnF; split <;> omega
  refine ⟨?_,by omega,fun a ha=>?_⟩
  ·rcases h1 with h | h
   ·rcases k.1 with q | q
    ·left; rw [h,q]
    ·right; rw [h,q]; exact List.mem_cons_self ..
   ·right; exact List.mem_cons_of_mem _ h
  ·rcases List.mem_cons.mp ha with rfl | ha
   ·omega
   ·exact h3 a ha
theorem bf6 : ∀ (l : List Int) (z : Int),(l.foldl mxF z = z ∨ l.foldl mxF z ∈ l) ∧ z ≤ l.foldl mxF z ∧ ∀ a ∈ l,a ≤ l.foldl mxF z
 | [],z=>⟨.inl rfl,Int.le_refl _,fun a h=>by simp at h⟩
 | x :: l,z=>by
  obtain ⟨h1,h2,h3⟩:=bf6 l (mxF z x)
  rw [List.foldl_cons]
  have k : (mxF z x = z ∨ mxF z x = x) ∧ z ≤ mxF z x ∧ x ≤ mxF z x:=by unfold mxF; split <;> omega
  refine ⟨?_,by omega,fun a ha=>?_⟩
  ·rcases h1 with h | h
   ·rcases k.1 with q | q
    ·left; rw [h,q]
    ·right; rw [h,q]; exact List.mem_cons_self ..
   ·right; exact List.mem_cons_of_mem _ h
  ·rcases List.mem_cons.mp ha with rfl | ha
   ·omega
   ·exact h3 a ha
theorem by7 {l : List Int} (h : l ≠ []) : mnL l ∈ l ∧ ∀ a ∈ l,mnL l ≤ a:=by
 cases l with
 | nil=>exact absurd rfl h
 | cons x l =>
  obtain ⟨h1,h2,h3⟩:=bf7 l x
  refine ⟨?_,fun a ha=>?_⟩
  ·rcases h1 with h | h
   ·show l.foldl mnF x ∈ _; rw [h]; exact List.mem_cons_self ..
   ·exact List.mem_cons_of_mem _ h
  ·rcases List.mem_cons.mp ha with rfl | ha
   ·exact h2
   ·exact h3 a ha
theorem by4 {l : List Int} (h : l ≠ []) : mxL l ∈ l ∧ ∀ a ∈ l,a ≤ mxL l:=by
 cases l with
 | nil=>exact absurd rfl h
 | cons x l =>
  obtain ⟨h1,h2,h3⟩:=bf6 l x
  refine ⟨?_,fun a ha=>?_⟩
  ·rcases h1 with h | h
   ·show l.foldl mxF x ∈ _; rw [h]; exact List.mem_cons_self ..
   ·exact List.mem_cons_of_mem _ h
  ·rcases List.mem_cons.mp ha with rfl | ha
   ·exact h2
   ·exact h3 a ha
def bg5 : List D → Option (List Int)
 | []=>some []
 | .int i :: r=>(bg5 r).map fun ys=>i :: ys
 | _ :: _=>none
theorem ar9 {K : PySem.W.Frag} {H : Hp} : ∀ {ds : List D} {ys : List Int} {vs : List V},bg5 ds = some ys → Reps K H ds vs → vs = ys.map V.int
 | [],ys,vs,h,r=>by cases h; exact r
 | .int x :: ds,ys,vs,h,r=>by
  obtain ⟨zs,h1,h2⟩:=Option.map_eq_some_iff.mp h
  subst h2
  obtain ⟨v,t,e1,e2,e3⟩:=r
  subst e1
  rw [show v = _ from e2,ar9 h1 e3]; rfl
theorem Y1 : ∀ {ys : List Int} {us : List Value},F6 (ys.map V.int) us → ∃ xs : List (Int × Tok),us = xs.map (fun p=>.int p.1 p.2) ∧ xs.map (·.1) = ys
 | [],[],_=>⟨[],rfl,rfl⟩
 | y :: ys,u :: us,h=>by
  cases h with
  | cons a b =>
   obtain ⟨xs,e1,e2⟩:=Y1 b
   obtain ⟨t,rfl⟩:=a
   exact ⟨(y,t) :: xs,by rw [e1]; rfl,by rw [xmc,e2]⟩
theorem bq0 (hc : X.calm = true) : U2 X (.builtin "min") (fun xs H Q=>∃ p ns,xs = [.ref p] ∧ SqL X.K H p (ns.map V.int) ∧ ns ≠ [] ∧ Q (.int (mnL ns)) H):=by
 intro pins s σ H xs us Q I r h
 obtain ⟨p,ns,rfl,hq,hz,q⟩:=h
 obtain ⟨u,rfl,rx⟩:=h9 r
 cases rx
 obtain ⟨its,rv,pl,_⟩:=I.list hq
 obtain ⟨zs,e1,e2⟩:=Y1 rv
 have hl : s.heap.IsList p (intItems zs.toArray):=by
  have:=pl.isList
  rw [e1] at this
  simpa [intItems] using this
 have hzs : zs.toArray.toList.map (·.1) = ns:=by simpa using e2
 have hn : 0 < zs.toArray.size:=by
  cases zs with
  | nil=>exact absurd e2.symm hz
  | cons=>simp
 refine min_intList (I.ok.hd hc) hl hn fun v h' tk hv hk=>?_
 obtain ⟨t,rfl⟩:=intItems_at hv
 obtain ⟨b1,b2⟩:=argBest_lt (numAt zs.toArray) (zs.toArray.size - 1)
 have key : numAt zs.toArray (argBest (fun i j=>decide (numAt zs.toArray i < numAt zs.toArray j)) (zs.toArray.size - 1)) = mnL ns:=by
  obtain ⟨m1,m2⟩:=by7 hz
  have g : ∀ j,j < zs.toArray.size → numAt zs.toArray j ∈ ns:=fun j hj=>by
   rw [numAt_eq,hzs]; exact getD_mem (by rw [← hzs,List.length_map,Array.length_toList]; omega)
  refine Int.le_antisymm ?_ (m2 _ (g _ (by omega)))
  rw [← hzs] at m1
  obtain ⟨j,hj,e⟩:=mem_getD m1
  rw [List.length_map,Array.length_toList] at hj
  have:=b2 j (by omega)
  rw [numAt_eq zs.toArray j,e,hzs] at this
  exact this
 rw [key]
 exact ⟨.int _,H,I.kept (t':=tk) hk,⟨_,rfl⟩,q⟩
theorem bq2 (hc : X.calm = true) : U2 X (.builtin "max") (fun xs H Q=>∃ p ns,xs = [.ref p] ∧ SqL X.K H p (ns.map V.int) ∧ ns ≠ [] ∧ Q (.int (mxL ns)) H):=by
 intro pins s σ H xs us Q I r h
 obtain ⟨p,ns,rfl,hq,hz,q⟩:=h
 obtain ⟨u,rfl,rx⟩:=h9 r
 cases rx
 obtain ⟨its,rv,pl,_⟩:=I.list hq
 obtain ⟨zs,e1,e2⟩:=Y1 rv
 have hl : s.heap.IsList p (intItems zs.toArray):=by
  have:=pl.isList
  rw [e1] at this
  simpa [intItems] using this
 have hzs : zs.toArray.toList.map (·.1) = ns:=by simpa using e2
 have hn : 0 < zs.toArray.size:=by
  cases zs with
  | nil=>exact absurd e2.symm hz
  | cons=>simp
 refine max_intList (I.ok.hd hc) hl hn fun v h' tk hv hk=>?_
 obtain ⟨t,rfl⟩:=intItems_at hv
 obtain ⟨b1,b2⟩:=argBest_gt (numAt zs.toArray) (zs.toArray.size - 1)
 have key : numAt zs.toArray (argBest (fun i j=>decide (numAt zs.toArray i > numAt zs.toArray j)) (zs.toArray.size - 1)) = mxL ns:=by
  obtain ⟨m1,m2⟩:=by4 hz
  have g : ∀ j,j < zs.toArray.size → numAt zs.toArray j ∈ ns:=fun j hj=>by
   rw [numAt_eq,hzs]; exact getD_mem (by rw [← hzs,List.length_map,Array.length_toList]; omega)
  refine Int.le_antisymm (m2 _ (g _ (by omega))) ?_
  rw [← hzs] at m1
  obtain ⟨j,hj,e⟩:=mem_getD m1
  rw [List.length_map,Array.length_toList] at hj
  have:=b2 j (by omega)
  rw [numAt_eq zs.toArray j,e,hzs] at this
  exact this
 rw [key]
 exact ⟨.int _,H,I.kept (t':=tk) hk,⟨_,rfl⟩,q⟩
def bT3 (f : Rho → Option (Bool × List D)) : DE:=fun ρ=>(f ρ).bind fun q=>if q.1 = true then none else (bg5 q.2).bind fun ns=>if ns = [] then none else some (.int (mnL ns))
def bT5 (f : Rho → Option (Bool × List D)) : DE:=fun ρ=>(f ρ).bind fun q=>if q.1 = true then none else (bg5 q.2).bind fun ns=>if ns = [] then none else some (.int (mxL ns))
theorem bO1 {e : Expr} {f : Rho → Option (Bool × List D)} {p pos : Pos} (hg : Gl X "min") (hm : X.mg "min" = none) (h : JQ X e f) (hc : X.calm = true) (he : starEach [e] X.env = [(false,eval e X.env)]) : JE X (.Call (.Name "min" p) [e] [] pos) (bT3 f):=fun ρ d q=>by
 obtain ⟨⟨t,ds⟩,h1,q⟩:=Option.bind_eq_some_iff.mp q
 split at q
 ·cases q
 ·rename_i ht
  have ht : t = false:=by simpa using ht
  subst ht
  obtain ⟨ys,h2,q⟩:=Option.bind_eq_some_iff.mp q
  split at q
  ·cases q
  ·rename_i hz
   cases q
   refine D4 (P8 (bq0 hc) hg hm bF2 (E6 (h ρ false ds h1) J7 he) (he:=he)) fun σ H Q ⟨H0,Hf,s,sl,k⟩=>?_
   refine ⟨H0,Hf,s,sl,fun v H1 Hf1 g1 ⟨a,vs,e1,e2,e3⟩=>⟨a,ys,by rw [e1],?_,hz,?_⟩⟩
   ·rw [← ar9 h2 e3]; exact e2
   ·exact k _ _ _ g1 rfl
theorem bO3 {e : Expr} {f : Rho → Option (Bool × List D)} {p pos : Pos} (hg : Gl X "max") (hm : X.mg "max" = none) (h : JQ X e f) (hc : X.calm = true) (he : starEach [e] X.env = [(false,eval e X.env)]) : JE X (.Call (.Name "max" p) [e] [] pos) (bT5 f):=fun ρ d q=>by
 obtain ⟨⟨t,ds⟩,h1,q⟩:=Option.bind_eq_some_iff.mp q
 split at q
 ·cases q
 ·rename_i ht
  have ht : t = false:=by simpa using ht
  subst ht
  obtain ⟨ys,h2,q⟩:=Option.bind_eq_some_iff.mp q
  split at q
  ·cases q
  ·rename_i hz
   cases q
   refine D4 (P8 (bq2 hc) hg hm bF3 (E6 (h ρ false ds h1) J7 he) (he:=he)) fun σ H Q ⟨H0,Hf,s,sl,k⟩=>?_
   refine ⟨H0,Hf,s,sl,fun v H1 Hf1 g1 ⟨a,vs,e1,e2,e3⟩=>⟨a,ys,by rw [e1],?_,hz,?_⟩⟩
   ·rw [← ar9 h2 e3]; exact e2
   ·exact k _ _ _ g1 rfl
end
end G
namespace G
open PySem PySem.Spec PyProof.Rows L2
section
variable {prog : Program} {w : World} {A : Around} {E : Value → Shared → Prop} {s : Shared} {t : Bool}
theorem aN4 {M : Model} {a : Addr} {Q : Option Obj → Shared → Prop} (h : Q (s.heap.get? a) s) : wpAny M A (loadIfAlive a) Q E s:=fun Γ p _=>by
 show Sem.wp M Γ (.loadIfAlive a .pure) _ _ p s
 rw [Sem.wp_loadIfAlive]
 exact (Sem.wp_pure ..).mpr h
def bi1 (h : Heap) (e it : Addr) (i : Int) : Prop:=∃ (a : Addr) (b : Bool) (x : Value) (u : Obj),
 h.get? e = some { cls:=.type "enumerate", dict:=none,data:=.fields #[rawInt a,.bool b,.ref it,rawInt i,.none,x],slots:=#[] } ∧ a ≠ e ∧ a ≠ it ∧ h.get? a = some u
theorem bn6 {e it l : Addr} {i : Nat} {xs : Array Value} {x : Value} {Q : Option Value → Shared → Prop} (he : bi1 s.heap e it i) (hit : SIt t s.heap it l i) (hl : SSq t s.heap l xs) (hx : xs[i]? = some x) (hne : e ≠ it)
  (hQ : ∀ h' tk,bi1 h' e it ((i : Int) + 1) → SIt t h' it l (i + 1) → h'.get? s.heap.objs.size = some { cls:=.type "tuple", data:=.seq #[.int i tk,x] } → h'.objs.size = s.heap.objs.size + 1 →
   (∀ b o,b ≠ e → b ≠ it → s.heap.get? b = some o → h'.get? b = some o) → Q (some (.ref s.heap.objs.size)) { s with heap:=h',toks:=tk + 1 }) :
  wpAny (model prog w) A (pyNext (.ref e)) Q E s:=by
 obtain ⟨a,b,x0,u,he,ae,ai,ha⟩:=he
 have hT : s.TypeIs (.ref e) "enumerate" := ⟨_,he,rfl⟩
 unfold pyNext
 refine wpAny_bind (wpAny_attempt (wpAny_callSpecial?_slot (name:=Str.ofString "__next__") hT F.slot_enumerate_next (wpAny_call_entry F.slot_enumerate_next hT F.entry_enumerate_next ?_ (F.args_enumerate_next_1 _))))
 obtain ⟨hp,g,d,tk,os⟩:=s
 show wpAny _ _ (field (.ref e) 2 >>= _) _ _ _
 refine wpAny_bind (wpAny_field he rfl (x:=.ref it) rfl ?_)
 refine wpAny_bind (ac8 hit hl hx fun h₁ hit₁ hs₁=>?_)
 replace hs₁ : Heap.SameBut it hp h₁:=hs₁
 have he₁:=(hs₁.2 e hne).trans he
 show wpAny _ _ (field (.ref e) 3 >>= _) _ _ ⟨h₁,g,d,tk,os⟩
 refine wpAny_bind (wpAny_field he₁ rfl (x:=rawInt i) rfl ?_)
 show wpAny _ _ (field (.ref e) 4 >>= _) _ _ ⟨h₁,g,d,tk,os⟩
 refine wpAny_bind (wpAny_field he₁ rfl (x:=.none) rfl ?_)
 show wpAny _ _ (mkInt i >>= _) _ _ ⟨h₁,g,d,tk,os⟩
 refine wpAny_bind (wpAny_mkInt ?_)
 show wpAny _ _ (setField (.ref e) 3 (rawInt ((i : Int) + 1)) >>= _) _ _ ⟨h₁,g,d,tk + 1,os⟩
 refine wpAny_bind (wpAny_setField_rec he₁ (by simp) fun h₂ he₂ hs₂=>?_)
 replace hs₂ : Heap.SameBut e h₁ h₂:=hs₂
 replace he₂ : h₂.get? e = some { cls:=.type "enumerate", dict:=none,data:=.fields #[rawInt a,.bool b,.ref it,rawInt ((i : Int) + 1),.none,x0],slots:=#[] }:=he₂
 show wpAny _ _ (setField (.ref e) 4 .none >>= _) _ _ ⟨h₂,g,d,tk + 1,os⟩
 refine wpAny_bind (wpAny_setField_rec he₂ (by simp) fun h₃ he₃ hs₃=>?_)
 replace hs₃ : Heap.SameBut e h₂ h₃:=hs₃
 replace he₃ : h₃.get? e = some { cls:=.type "enumerate", dict:=none,data:=.fields #[rawInt a,.bool b,.ref it,rawInt ((i : Int) + 1),.none,x0],slots:=#[] }:=he₃
 show wpAny _ _ (newTuple [.int i tk,x] >>= _) _ _ ⟨h₃,g,d,tk + 1,os⟩
 refine wpAny_bind (wpAny_newTuple ?_)
 have he₄:=Heap.get?_push_of_some { cls:=.type "tuple", data:=.seq #[.int i tk,x] } he₃
 generalize hh₄ : h₃.push { cls:=.type "tuple", data:=.seq #[.int i tk,x] } = h₄ at he₄
 have hsz : h₃.objs.size = hp.objs.size:=by rw [hs₃.1,hs₂.1,hs₁.1]
 have hel : e < hp.objs.size:=Heap.lt_size he
 have ht₄ : h₄.get? hp.objs.size = some { cls:=.type "tuple", data:=.seq #[.int i tk,x] }:=by rw [← hh₄,← hsz]; exact Heap.get?_push_size _ rfl
 have hz₄ : h₄.objs.size = hp.objs.size + 1:=by rw [← hh₄,Heap.size_push,hsz]
 have hk₄ : ∀ b o,b ≠ e → b ≠ it → hp.get? b = some o → h₄.get? b = some o:=fun b o hbe hbi hb=>by
  rw [← hh₄]; exact Heap.get?_push_of_some _ (hs₃.extBut b o hbe (hs₂.extBut b o hbe (hs₁.extBut b o hbi hb)))
 have hit₄ : SIt t h₄ it l (i + 1):=hit₁.ext fun o y=>by
  rw [← hh₄]; exact Heap.get?_push_of_some _ (hs₃.extBut it o hne.symm (hs₂.extBut it o hne.symm y))
 have ha₄:=hk₄ a u ae ai ha
 show wpAny _ _ (Builtin.SmallTypes.ownedTupleIsFree (.ref e) >>= _) _ _ ⟨h₄,g,d,tk + 1,os⟩
 rw [hsz]
 clear hh₄ he₃ hs₃ he₂ hs₂ he₁ hs₁ hit₁ hsz h₃ h₂ h₁
 refine wpAny_bind ?_
 unfold Builtin.SmallTypes.ownedTupleIsFree
 refine wpAny_bind (wpAny_field he₄ rfl (x:=rawInt a) rfl ?_)
 show wpAny _ _ (loadIfAlive ((a : Int)).toNat >>= _) _ _ _
 refine wpAny_bind (aN4 ?_)
 rw [Int.toNat_natCast]
 rw [show (Shared.heap ⟨h₄,g,d,tk + 1,os⟩).get? a = some u from ha₄]
 show wpAny _ _ (field (.ref e) 1 >>= _) _ _ ⟨h₄,g,d,tk + 1,os⟩
 refine wpAny_bind (wpAny_field he₄ rfl (x:=.bool b) rfl ?_)
 cases b with
 | false =>
  show wpAny _ _ (setField (.ref e) 1 (.bool true) >>= _) _ _ ⟨h₄,g,d,tk + 1,os⟩
  refine wpAny_bind (wpAny_setField_rec he₄ (by simp) fun h₅ he₅ hs₅=>?_)
  replace hs₅ : Heap.SameBut e h₄ h₅:=hs₅
  refine wpAny_pure (wpAny_pure ⟨_,rfl,wpAny_pure (hQ h₅ tk ⟨a,true,x0,u,he₅,ae,ai,hs₅.extBut a u ae ha₄⟩ (hit₄.ext fun o y=>hs₅.extBut it o hne.symm y) (hs₅.extBut _ _ (Nat.ne_of_gt hel) ht₄) (by rw [hs₅.1,hz₄]) fun b o hbe hbi hb=>hs₅.extBut b o hbe (hk₄ b o hbe hbi hb))⟩)
 | true =>
  exact wpAny_pure (wpAny_pure ⟨_,rfl,wpAny_pure (hQ h₄ tk ⟨a,true,x0,u,he₄,ae,ai,ha₄⟩ hit₄ ht₄ hz₄ hk₄)⟩)
theorem aZ5 {e it l : Addr} {i : Int} {k : Nat} {xs : Array Value} {Q : Option Value → Shared → Prop} (hh : A.handled = none) (he : bi1 s.heap e it i) (hit : SIt t s.heap it l k) (hl : SSq t s.heap l xs) (hx : xs[k]? = none)
  (hQ : ∀ h',Heap.ExtBut it s.heap h' → Q none { s with heap:=h' }) : wpAny (model prog w) A (pyNext (.ref e)) Q E s:=by
 obtain ⟨a,b,x0,u,he,_⟩:=he
 have hT : s.TypeIs (.ref e) "enumerate" := ⟨_,he,rfl⟩
 unfold pyNext
 refine wpAny_bind (wpAny_attempt (wpAny_callSpecial?_slot (name:=Str.ofString "__next__") hT F.slot_enumerate_next (wpAny_call_entry F.slot_enumerate_next hT F.entry_enumerate_next ?_ (F.args_enumerate_next_1 _))))
 show wpAny _ _ (field (.ref e) 2 >>= _) _ _ _
 refine wpAny_bind (wpAny_field he rfl (x:=.ref it) rfl (wpAny_bind (am9 hh hit hl hx fun h' x he' hx'=>?_)))
 obtain ⟨o,ho,hc⟩:=hx'
 exact wpAny_bind (wpAny_isInstance (T := "StopIteration") (b:=true) ⟨o,ho,hc⟩ isSubtype_stop (wpAny_pure (hQ _ he')))
def ap7 (h : Heap) (e it : Addr) (i : Int) : Prop:=(∃ old,IsEnum h e it i old) ∨ bi1 h e it i
theorem ap7.obj {h : Heap} {e it : Addr} {i : Int} (x : ap7 h e it i) : ∃ fs,h.get? e = some { cls:=.type "enumerate", dict:=none,data:=.fields fs,slots:=#[] }:=by
 rcases x with ⟨old,x⟩ | ⟨a,b,x0,u,x,_⟩
 ·exact ⟨_,x⟩
 ·exact ⟨_,x⟩
theorem ap7.ext {h h' : Heap} {e it : Addr} {i : Int} (x : ap7 h e it i) {S : Addr} {o : Obj} (hS : h.get? S = some o) (hS' : ∃ o',h'.get? S = some o') (hne : S ≠ e) (k : ∀ b o,b ≠ S → h.get? b = some o → h'.get? b = some o) : ap7 h' e it i:=by
 rcases x with ⟨old,x⟩ | ⟨a,b,x0,u,x,ae,ai,ha⟩
 ·exact .inl ⟨old,k _ _ hne.symm x⟩
 ·by_cases q : a = S
  ·subst q
   obtain ⟨o',hS'⟩:=hS'
   exact .inr ⟨a,b,x0,o',k _ _ hne.symm x,ae,ai,hS'⟩
  ·exact .inr ⟨a,b,x0,u,k _ _ hne.symm x,ae,ai,k _ _ q ha⟩
theorem bn7 {e it l : Addr} {i : Nat} {xs : Array Value} {x : Value} {Q : Option Value → Shared → Prop} (hh : A.handled = none) (he : ap7 s.heap e it i) (hit : SIt t s.heap it l i) (hl : SSq t s.heap l xs) (hx : xs[i]? = some x) (hne : e ≠ it) (hle : l ≠ e) (hli : l ≠ it)
  (hQ : ∀ h' tk,ap7 h' e it ((i + 1 : Nat) : Int) → SIt t h' it l (i + 1) → h'.get? s.heap.objs.size = some { cls:=.type "tuple", data:=.seq #[.int i tk,x] } → h'.objs.size = s.heap.objs.size + 1 →
   (∀ b o,b ≠ e → b ≠ it → s.heap.get? b = some o → h'.get? b = some o) → Q (some (.ref s.heap.objs.size)) { s with heap:=h',toks:=tk + 1 }) :
  wpAny (model prog w) A (pyNext (.ref e)) Q E s:=by
 have ei : (((i + 1 : Nat)) : Int) = (i : Int) + 1:=by omega
 rcases he with ⟨old,he⟩ | he
 ·have hlt : i < xs.size:=by
   rcases Nat.lt_or_ge i xs.size with h | h
   ·exact h
   ·rw [Array.getElem?_eq_none h] at hx; cases hx
  have el:=Heap.lt_size he
  have il:=hit.lt
  refine wpAny_pyNext_enum_itemD (aF2 (A:=A.in1) hh t it l hli xs) he ⟨hit,hl⟩ hlt hne (by simp only [List.mem_cons,List.not_mem_nil,or_false,not_or]; exact ⟨hne,hle.symm⟩) fun y h' tk hy ho hst hT hsz hk=>?_
  rw [hx] at hy
  cases hy
  exact hQ h' tk (.inr ⟨_,false,x,_,by rw [ei]; exact ho,Nat.ne_of_gt el,Nat.ne_of_gt il,hT⟩) hst.1 hT hsz hk
 ·exact bn6 he hit hl hx hne fun h' tk a b c d k=>hQ h' tk (.inr (by rw [ei]; exact a)) b c d k
theorem aZ6 {e it l : Addr} {i : Int} {k : Nat} {xs : Array Value} {Q : Option Value → Shared → Prop} (hh : A.handled = none) (he : ap7 s.heap e it i) (hit : SIt t s.heap it l k) (hl : SSq t s.heap l xs) (hx : xs[k]? = none)
  (hQ : ∀ h',Heap.ExtBut it s.heap h' → Q none { s with heap:=h' }) : wpAny (model prog w) A (pyNext (.ref e)) Q E s:=by
 rcases he with ⟨old,he⟩ | he
 ·exact aF1 hh he hit hl hx hQ
 ·exact aZ5 hh he hit hl hx hQ
theorem aS4 : typeLookup (.type "enumerate") "__len__" = pure none:=by rw [typeLookup_type,builtinLookup_eq_fast]; kernel_rfl
theorem aK6 : typeLookup (.type "enumerate") "__length_hint__" = pure none:=by rw [typeLookup_type,builtinLookup_eq_fast]; kernel_rfl
end
def cl9 (Hf : Hp) (ws : List V) (Ts : List Addr) (i : Nat) : Prop:=Ts.length = i ∧ ∀ (j : Nat) (T : Addr),Ts[j]? = some T → ∃ x,ws[j]? = some x ∧ Hf T = some (.tup [.int j,x])
abbrev aQ8 (Ts : List Addr) (c : Nat) : Obj:={ cls:=.type "list", dict:=none,data:=.seq (Ts.map Value.ref).toArray c,slots:=#[] }
section
variable {X : Cx} {pins : List (Addr × Obj)} {σ : L2.St} {A : Around} {t : Bool} {S e it a : Addr} {ws : List V}
theorem au8 {K : PySem.W.Frag} {t : Bool} {a : Addr} {xs : List V} {H H' : Hp} (e : F9 H H') (h : Sq K t H a xs) : Sq K t H' a xs:=by
 cases t with
 | true=>exact E2 e h
 | false=>exact G2 e h
theorem bD3 {H : Hp} {T : Addr} {o : HO} {b : Addr} (h : n9 X pins H b) (n : b ≠ T) : n9 X pins (upd H T o) b:=⟨by rw [D7 n]; exact h.1,h.2⟩
theorem bn0 {R : Result → Shared → Prop} {res : Value} (hc : A.handled = none) (h1 : e ≠ it) (h2 : a ≠ e) (h3 : a ≠ it) (h4 : S ≠ e) (h5 : S ≠ it) (hz : ws.length ≤ 1000) {H0 Hf0 : Hp} :
    ∀ (k i : Nat) (s : Shared) (H Hf : Hp) (Ts : List Addr) (c : Nat),ws.length - i = k → i ≤ ws.length → Inv X pins σ H s → (∀ b ∈ [e,it,S],n9 X pins H b) → ap7 s.heap e it i → SIt t s.heap it a i → Sq X.K t Hf a ws → Grow H0 Hf0 H Hf → s.heap.get? S = some (aQ8 Ts c) → cl9 Hf ws Ts i →
    (∀ s' H' Hf' Ts' c',Inv X pins σ H' s' → (∀ b ∈ [e,it,S],n9 X pins H' b) → Grow H0 Hf0 H' Hf' → s'.heap.get? S = some (aQ8 Ts' c') → cl9 Hf' ws Ts' ws.length → R (.ok (.ret res)) s') →
    codeAny (model X.prog X.w) A (.builtin "list.extend.loop" ⟨[.ref S,.ref e,res],[]⟩) R s:=by
  intro k
  induction k with
  | zero =>
    intro i s H Hf Ts c hk hi I hf he hit sq g hS ht hR
    have hin : i = ws.length:=by omega
    obtain ⟨us,r1,p1,lt1⟩:=R8 I (au8 g.sub sq)
    have l1:=r1.length
    refine codeAny_builtin F.entry_extend_loop ?_
    rw [Around.under_plainId F.plain_extend_loop _]
    show wpAny _ A.in1 (pyNext (.ref e) >>= _) _ _ s
    refine wpAny_bind (aZ6 hc he hit p1 (by simp; omega) fun h' hk'=>?_)
    have I' : Inv X pins σ H { s with heap:=h',toks:=s.toks }:=S4 (ch:=[e,it]) I (fun b hb=>hf b (by simp at hb; rcases hb with rfl | rfl <;> simp)) fun b u hb q=>hk' b u (fun z=>hb (by simp [z])) q
    exact wpAny_pure (hR _ H Hf Ts c I' hf g (hk' S _ h5 hS) (by rw [← hin]; exact ht))
  | succ k ih =>
    intro i s H Hf Ts c hk hi I hf he hit sq g hS ht hR
    have hlt : i < ws.length:=by omega
    obtain ⟨us,r1,p1,lt1⟩:=R8 I (au8 g.sub sq)
    obtain ⟨ux,eux,rx⟩:=r1.get (List.getElem?_eq_getElem hlt)
    refine codeAny_builtin F.entry_extend_loop ?_
    rw [Around.under_plainId F.plain_extend_loop _]
    show wpAny _ A.in1 (pyNext (.ref e) >>= _) _ _ s
    refine wpAny_bind (bn7 hc he hit p1 (by simpa using eux) h1 h2 h3 fun h' tk he' hit' hT hsz hkp=>?_)
    have hn : H s.heap.objs.size = none:=I.hok.fresh (Nat.le_refl _)
    have neT : ∀ c o,s.heap.get? c = some o → c ≠ s.heap.objs.size:=fun c o q=>Nat.ne_of_lt (Heap.lt_size q)
    obtain ⟨fs,eo⟩:=he.obj
    have I1 : Inv X pins σ (upd H s.heap.objs.size (.tup [.int i,ws[i]])) { s with heap:=h',toks:=tk + 1 }:=W4 (s:=s) (h':=h') (t':=tk + 1) (ch:=[e,it]) I (fun b hb=>hf b (by simp at hb; rcases hb with rfl | rfl <;> simp)) (Nat.le_refl _) (fun b u hb q=>hkp b u (fun z=>hb (by simp [z])) (fun z=>hb (by simp [z])) q)
      ⟨by show 2 ≤ sizeLine; decide,[.int i tk,ux],.cons ⟨tk,rfl⟩ (.cons rx .nil),_,hT,rfl,_,rfl⟩
    have hS':=hkp S _ h4 h5 hS
    show wpAny _ A.in1 (updateSeq S (·.push (.ref s.heap.objs.size)) >>= _) _ _ _
    refine wpAny_bind (wpAny_updateSeq hS' rfl ?_ (by simp [ht.1]; have : (1000 : Nat) < sizeLine:=by decide
                                                      omega) (by simp [ht.1]; have : (1000 : Nat) < sizeLine:=by decide
                                                                 omega))
    have hf1 : ∀ b ∈ [e,it,S],n9 X pins (upd H s.heap.objs.size (.tup [.int i,ws[i]])) b:=fun b hb=>bD3 (hf b hb) (by
      simp at hb
      rcases hb with rfl | rfl | rfl
      · exact neT _ _ eo
      · exact Nat.ne_of_lt hit.lt
      · exact neT _ _ hS)
    have oth : ∀ b o,b ≠ S → h'.get? b = some o → (h'.update S (Obj.mapSeq (·.push (.ref s.heap.objs.size)))).get? b = some o:=fun b o hb q=>(Heap.get?_update_other _ _ (Ne.symm hb)).trans q
    have hSn:=Heap.get?_update_self (Obj.mapSeq (·.push (Value.ref s.heap.objs.size))) hS' rfl
    have I2:=S4 (t':=tk + 1) (h':=h'.update S (Obj.mapSeq (·.push (.ref s.heap.objs.size)))) (ch:=[S]) I1 (fun b hb=>hf1 b (by simp at hb; simp [hb])) fun b u hb q=>oth b u (fun z=>hb (by simp [z])) q
    have hnf : Hf s.heap.objs.size = none:=g.sub.free hn
    refine wpAny_pure ⟨plainId_quiet F.plain_extend_loop _,ih (i + 1) _ _ (upd Hf s.heap.objs.size (.tup [.int i,ws[i]])) (Ts ++ [s.heap.objs.size]) (c + 1) (by omega) (by omega) I2 hf1 (he'.ext hS' ⟨_,hSn⟩ h4 oth) (hit'.ext fun o q=>oth it o h5.symm q) (au8 (E8 hnf) sq) (g.trans (Grow.laid g.sub hn)) ?_ ?_ hR⟩
    · simpa [aQ8,Obj.mapSeq] using hSn
    · refine ⟨by rw [List.length_append,ht.1]; rfl,fun j T hj=>?_⟩
      rcases Nat.lt_or_ge j Ts.length with q | q
      · rw [List.getElem?_append_left q] at hj
        obtain ⟨x,ex,hx⟩:=ht.2 j T hj
        exact ⟨x,ex,by rw [D7 (D8 hx hnf)]; exact hx⟩
      · rw [List.getElem?_append_right q] at hj
        have hj0 : j - Ts.length = 0:=by
          rcases Nat.eq_zero_or_pos (j - Ts.length) with z | z
          · exact z
          · rw [List.getElem?_eq_none (by simp; omega)] at hj; cases hj
        rw [hj0] at hj
        cases hj
        have : j = i:=by have:=ht.1; omega
        subst this
        exact ⟨_,List.getElem?_eq_getElem hlt,D6⟩
theorem az9 {H Hf : Hp} {s : Shared} {E : Value → Shared → Prop} {Q : Value → Shared → Prop} (hc : A.handled = none) (h1 : e ≠ it) (h2 : a ≠ e) (h3 : a ≠ it) (hz : ws.length ≤ 1000) (I : Inv X pins σ H s) (hf : ∀ b ∈ [e,it],n9 X pins H b) (he : IsEnum s.heap e it 0 .none) (hit : SIt t s.heap it a 0) (sq : Sq X.K t Hf a ws) (g : F9 Hf H)
  (hQ : ∀ s' H' Hf' Ts c,Inv X pins σ H' s' → (∀ b ∈ [e,it,s.heap.objs.size],n9 X pins H' b) → Grow H Hf H' Hf' → s'.heap.get? s.heap.objs.size = some (aQ8 Ts c) → cl9 Hf' ws Ts ws.length → Q (.ref s.heap.objs.size) s') :
  wpAny (model X.prog X.w) A (call (.type "list") [.ref e]) Q E s:=by
 have el:=Heap.lt_size he
 have il:=hit.lt
 obtain ⟨S,eS⟩ : ∃ S,S = s.heap.objs.size:=⟨_,rfl⟩
 have fS : n9 X pins H S:=I.fpOk (by omega) (I.hok.fresh (by omega))
 have h4 : S ≠ e:=by rw [eS]; exact Nat.ne_of_gt el
 have h5 : S ≠ it:=by rw [eS]; exact Nat.ne_of_gt il
 rw [← eS] at hQ
 refine callType_codes (Q₁:=fun obj s₁=>obj = .ref S ∧ s₁ = { s with heap:=s.heap.push { cls:=.type "list", data:=.seq #[] } }) F.called_list (F.typeCall_list_1 _) F.entry_list_init (code_list_new _ ⟨by rw [eS],rfl⟩) fun obj s₁ hh=>?_
 obtain ⟨rfl,rfl⟩:=hh
 have hS : (s.heap.push { cls:=.type "list", data:=.seq #[] }).get? S = some { cls:=.type "list", data:=.seq #[] }:=by rw [eS]; exact Heap.get?_push_size _ rfl
 refine ⟨⟨_,hS,rfl⟩,F.args_list_init_2 _ _,?_⟩
 show wpAny _ _ (do let old ← Builtin.List.listItems (.ref S); Builtin.List.listUpdate (.ref S) (fun _=>#[]); letGo old.toList.reverse; Builtin.List.listExtendWith (.ref S) (.ref e) .none) _ _ _
 refine wpAny_bind ?_
 unfold Builtin.List.listItems
 refine wpAny_bind (wpAny_seqItems hS rfl (wpAny_pure ?_))
 show wpAny _ _ (updateSeq S (fun _=>#[]) >>= fun _=>letGo (#[] : Array Value).toList.reverse >>= fun _=>Builtin.List.listExtendWith (.ref S) (.ref e) .none) _ _ _
 refine wpAny_bind (wpAny_updateSeq hS rfl ?_)
 have hS₂:=Heap.get?_update_self (Obj.mapSeq (fun _=>(#[] : Array Value))) hS rfl
 refine wpAny_bind (wpAny_letGo ?_)
 have k2 : ∀ b o,b ≠ S → s.heap.get? b = some o → ((s.heap.push { cls:=.type "list", data:=.seq #[] }).update S (Obj.mapSeq (fun _=>(#[] : Array Value)))).get? b = some o:=fun b o hb q=>(Heap.get?_update_other _ _ (Ne.symm hb)).trans (Heap.get?_push_of_some _ q)
 generalize (s.heap.push { cls:=.type "list", data:=.seq #[] }).update S (Obj.mapSeq (fun _=>(#[] : Array Value))) = h₂ at hS₂ k2
 have he₂ : IsEnum h₂ e it 0 .none:=k2 e _ h4.symm he
 unfold Builtin.List.listExtendWith
 refine wpAny_bind (wpAny_typeOf ⟨_,he₂,rfl⟩ ?_)
 have q1 : Builtin.List.listSameRef (.ref S) (.ref e) = false:=by simp [Builtin.List.listSameRef,h4]
 have q2 : (Value.type "enumerate" == Value.type "list") = false:=by decide
 have q3 : (Value.type "enumerate" == Value.type "tuple") = false:=by decide
 simp only [q1,q2,q3,Bool.or_false,xft,if_false]
 refine wpAny_bind (wpAny_pyIter_enum he₂ ?_)
 refine wpAny_bind (wpAny_holding ?_)
 unfold Builtin.List.listLengthHint
 refine wpAny_bind (wpAny_specialOf ⟨_,he₂,rfl⟩ aS4 ?_)
 show wpAny _ _ (specialOf (Value.ref e) (Str.ofString "__length_hint__") >>= _) _ _ _
 refine wpAny_bind (wpAny_specialOf ⟨_,he₂,rfl⟩ aK6 ?_)
 refine wpAny_pure ?_
 show wpAny _ _ (rule "list.extend.makes-room" >>= fun _=>Builtin.List.listTouch (.ref S) >>= fun _=>again (.builtin "list.extend.loop" ⟨[.ref S,.ref e,.none],[]⟩)) _ _ _
 refine wpAny_bind (wpAny_rule ?_)
 refine wpAny_bind ?_
 show wpAny _ _ (updateSeq S (·.push .none) >>= fun _=>updateSeq S (·.pop)) _ _ _
 refine wpAny_bind (wpAny_updateSeq hS₂ rfl ?_)
 have hS₃:=Heap.get?_update_self (Obj.mapSeq (·.push Value.none)) hS₂ rfl
 refine wpAny_updateSeq (hz:=by seq_fits) hS₃ rfl ?_
 have hS₄:=Heap.get?_update_self (Obj.mapSeq (·.pop)) hS₃ rfl
 have k4 : ∀ b o,b ≠ S → s.heap.get? b = some o → ((h₂.update S (Obj.mapSeq (·.push Value.none))).update S (Obj.mapSeq (·.pop))).get? b = some o :=
  fun b o hb q=>(Heap.get?_update_other _ _ (Ne.symm hb)).trans ((Heap.get?_update_other _ _ (Ne.symm hb)).trans (k2 b o hb q))
 generalize (h₂.update S (Obj.mapSeq (·.push Value.none))).update S (Obj.mapSeq (·.pop)) = h₄ at hS₄ k4
 have I4 : Inv X pins σ H { s with heap:=h₄,toks:=s.toks }:=S4 (ch:=[S]) I (fun b hb=>by simp at hb; rw [hb]; exact fS) fun b u hb q=>k4 b u (fun z=>hb (by simp [z])) q
 refine wpAny_pure ⟨plainId_quiet F.plain_extend_loop _,bn0 (S:=S) (A:=A.in1) hc h1 h2 h3 h4 h5 hz ws.length 0 _ H Hf [] _ (by omega) (by omega) I4 (fun b hb=>by
  simp at hb
  rcases hb with rfl | rfl | rfl
  ·exact hf _ (by simp)
  ·exact hf _ (by simp)
  ·exact fS) (.inl ⟨_,k4 e _ h4.symm he⟩) (hit.ext fun o q=>k4 it o h5.symm q) sq (Grow.refl g) hS₄ ⟨rfl,fun j T hj=>by simp at hj⟩ fun s' H' Hf' Ts c I' f' g' hS' t'=>?_⟩
 exact ⟨rfl,hQ s' H' Hf' Ts c I' f' g' hS' t'⟩
def cx8 (vs : List V) : It:=⟨fun i _=>i < vs.length,fun i H x H'=>H' = H ∧ vs[vs.length - 1 - i]? = some x,fun i _=>vs.length ≤ i⟩
theorem bt5 {P : Program} {w : World} {K : PySem.W.Frag} {tg : Expr} (R S : Addr) (hne : S ≠ R) (Ts : List Addr) (c : Nat) :
  Turn P w K tg (cx8 (Ts.map V.ref)) [R,S] R (fun i h=>i ≤ Ts.length ∧ h.IsRevIter R S ((Ts.length : Int) - 1 - (i : Int)) ∧ h.get? S = some (aQ8 Ts c)) where
 mem:=by simp
 obj:=fun i h ⟨_,hr,hl⟩ b hb=>by
  simp only [List.mem_cons,List.not_mem_nil,or_false] at hb
  rcases hb with rfl | rfl
  ·obtain ⟨o,ho,_,hd⟩:=hr; exact ⟨o,ho,fun v q=>by rw [hd] at q; cases q⟩
  ·exact ⟨_,hl,fun v q=>by cases q⟩
 keep:=fun i h h' ⟨hi,hr,hl⟩ k=>⟨hi,hr.at fun o q=>k R (by simp) o q,k S (by simp) _ hl⟩
 item:=by
  intro X hP hw hK hc i pins s σ H E I hf ⟨hi,hr,hl⟩ hg
  subst hP hw hK
  have hg : i < Ts.length:=by
   have : i < (Ts.map V.ref).length:=hg
   rwa [List.length_map] at this
  have e : (Ts.length : Int) - 1 - (i : Int) = ((Ts.length - 1 - i : Nat) : Int):=by omega
  rw [e] at hr
  have hx : (Ts.map Value.ref).toArray[Ts.length - 1 - i]? = some (.ref (Ts[Ts.length - 1 - i]'(by omega))):=by
   simp
  refine wpAny_pyNext_rev_item hr (items:=(Ts.map Value.ref).toArray) ⟨_,hl,rfl,_,rfl⟩ hx fun h' hr' sb=>?_
  have I1 : Inv X pins σ H { s with heap:=h',toks:=s.toks }:=S4 (ch:=[R,S]) I hf fun b u hb q=>sb.extBut b u (fun z=>hb (by simp [z])) q
  obtain ⟨o,ho,hc',hd⟩:=id hr'
  refine ⟨_,rfl,aR9 (s:={ s with heap:=h' }) ho hc' hd (by decide) ⟨.ref (Ts[Ts.length - 1 - i]'(by omega)),H,I1,rfl,⟨rfl,?_⟩,⟨by omega,?_,sb.extBut S _ hne hl⟩,fun b hb=>(hf b hb).1⟩⟩
  ·rw [List.length_map,List.getElem?_map,List.getElem?_eq_getElem (by omega)]; rfl
  ·have e2 : ((Ts.length - 1 - i : Nat) : Int) - 1 = (Ts.length : Int) - 1 - ((i + 1 : Nat) : Int):=by omega
   rw [← e2]; exact hr'
 done:=by
  intro X hP hw hK hc i pins s σ H E I hf ⟨hi,hr,hl⟩ hg
  subst hP hw hK
  have hg : Ts.length ≤ i:=by
   have : (Ts.map V.ref).length ≤ i:=hg
   rwa [List.length_map] at this
  have e : (Ts.length : Int) - 1 - (i : Int) = -1:=by omega
  rw [e] at hr
  exact wpAny_pyNext_rev_end (I.ok.hd hc) hr fun h' eb=>⟨rfl,S4 (t':=s.toks) (ch:=[R,S]) I hf fun b u hb q=>eb b u (fun z=>hb (by simp [z])) q⟩
 self:=fun _ _ _ _ _ ⟨_,hr,_⟩ h=>wpAny_pyIter_revIter hr h
end
section
variable {X : Cx}
theorem ty1 {pins : List (Addr × Obj)} {s : Shared} {σ : L2.St} {H : Hp} {T : String} {x : Str} {a : Expr} {p pos : Pos} {Q : Value → Shared → Prop} {E : Value → Shared → Prop} (I : Inv X pins σ H s) (hg : Gl X x) (hm : X.mg x = none) (hv : bootBuiltins x = some (.type T)) (hn : x ≠ "__name__") (hd : (x == ("__debug__" : Str)) = false)
  (hs : starEach [a] X.env = [(false,eval a X.env)]) (h : wpAny (model X.prog X.w) X.A (eval a X.env) (fun v s1=>wpAny (model X.prog X.w) X.A (call (.type T) [v]) Q E s1) E s) : wpAny (model X.prog X.w) X.A (eval (.Call (.Name x p) [a] [] pos) X.env) Q E s:=by
 refine Call_ (ae1 I hg hm hv (PyProof.Rows.callWith_type1 ?_ (by rw [hs]; rfl) (by rfl)) hn hd)
 rw [hs]
 exact Calls.spliced_cons (thn h fun v s1 q=>Calls.spliced_nil q)
def cs6 (f : Rho → Option (Bool × List D)) : Rho → Option (List D):=fun ρ=>(f ρ).bind fun q=>if q.2.length ≤ 1000 then some (az2 q.2).reverse else none
theorem bN5 {elts : List Expr} {k0 : Nat} {tpos : Pos} {a : Expr} {f : DE} {p1 p2 p3 q1 q2 q3 : Pos} (ge : Gl X "enumerate") (me : X.mg "enumerate" = none) (gl : Gl X "list") (ml : X.mg "list" = none) (gr : Gl X "reversed") (mr : X.mg "reversed" = none) (hc : X.calm = true) (ha : JE X a f) (hs : starEach [a] X.env = [(false,eval a X.env)]:=by rfl) :
  JI X (.Tuple elts k0 tpos) (.Call (.Name "reversed" p1) [.Call (.Name "list" p2) [.Call (.Name "enumerate" p3) [a] [] q3] [] q2] [] q1) (cs6 (qE f)):=fun ρ out q=>by
 obtain ⟨⟨t1,ds⟩,e1,q⟩:=Option.bind_eq_some_iff.mp q
 simp only at q
 split at q
 ·rename_i hz
  cases q
  obtain ⟨d1,e1,e1'⟩:=Option.bind_eq_some_iff.mp e1
  intro pins s σ H R I ⟨H0,Hf,ss,sl,k⟩
  refine ty1 I gr mr rfl (by decide) (by decide) rfl (ty1 I gl ml rfl (by decide) (by decide) rfl (ty1 I ge me rfl (by decide) (by decide) hs ?_))
  refine thn (ha ρ d1 e1 pins s σ H (fun v H'=>∃ Hf',Grow H Hf H' Hf' ∧ Rep X.K Hf' d1 v) I ⟨H0,Hf,ss,sl,fun v H1 Hf1 g1 r1=>⟨Hf1,g1,r1⟩⟩) fun u s1 ⟨v,H1,I1,rv,Hf1,gr1,p1⟩=>?_
  obtain ⟨a1,vs1,rfl,w1,w2⟩:=p1.seq (F9.refl Hf1) e1'
  cases rv
  obtain ⟨us1,rr1,hp1,lt1⟩:=R8 I1 (au8 gr1.sub w1)
  have hz' : vs1.length ≤ 1000:=by have:=w2.length; omega
  refine aw8 hp1 fun h' b1 b2 b3=>?_
  have I2 : Inv X pins σ H1 { s1 with heap:=h' }:=I1.kept (t':=s1.toks) b3
  refine az9 (e:=s1.heap.objs.size + 1) (it:=s1.heap.objs.size) (a:=a1) (I.ok.hd hc) (Nat.succ_ne_self _) (Nat.ne_of_lt (Nat.lt_succ_of_lt lt1)) (Nat.ne_of_lt lt1) hz' I2 (fun b hb=>?_) b1 b2 w1 gr1.sub fun s3 H3 Hf3 Ts c I3 f3 g3 hS3 t3=>?_
  ·have hb' : s1.heap.objs.size ≤ b:=by
    simp only [List.mem_cons,List.not_mem_nil,or_false] at hb
    rcases hb with rfl | rfl
    ·exact Nat.le_add_right _ _
    ·exact Nat.le_refl _
   exact I1.fpOk hb' (I1.hok.fresh hb')
  obtain ⟨S,eS⟩ : ∃ S,S = h'.objs.size:=⟨_,rfl⟩
  rw [show (Shared.heap { s1 with heap:=h' }).objs.size = S from eS.symm] at hS3 f3 ⊢
  refine call_reversed_list (items:=(Ts.map Value.ref).toArray) ⟨_,hS3,rfl,_,rfl⟩ ?_
  have kp : ∀ b o,s3.heap.get? b = some o → (s3.heap.push (revObj S (((Ts.map Value.ref).toArray.size : Int) - 1))).get? b = some o:=fun b o q=>Heap.get?_push_of_some _ q
  have I4 : Inv X pins σ H3 { s3 with heap:=s3.heap.push (revObj S (((Ts.map Value.ref).toArray.size : Int) - 1)),toks:=s3.toks }:=I3.kept kp
  have lS:=Heap.lt_size hS3
  have rv : (s3.heap.push (revObj S (((Ts.map Value.ref).toArray.size : Int) - 1))).IsRevIter s3.heap.objs.size S ((Ts.length : Int) - 1 - ((0 : Nat) : Int)):=⟨_,Heap.get?_push_size _ rfl,rfl,by simp [revObj]⟩
  refine wpAny_pyIter_revIter rv ⟨_,_,_,_,H3,rfl,I4,bt5 s3.heap.objs.size S (Nat.ne_of_lt lS) Ts c,⟨Nat.zero_le _,rv,kp _ _ hS3⟩,fun b hb=>?_,k _ H3 Hf3 (gr1.trans g3) ?_⟩
  ·simp only [List.mem_cons,List.not_mem_nil,or_false] at hb
   rcases hb with rfl | rfl
   ·exact I3.fpOk (Nat.le_refl _) (I3.hok.fresh (Nat.le_refl _))
   ·exact f3 _ (by simp)
  ·intro i H4 Hf4 sa sb
   have l1:=w2.length
   have tl:=t3.1
   have el : (Ts.map V.ref).length = ds.length:=by rw [List.length_map,tl,l1]
   refine ⟨fun hi=>?_,fun d hd=>?_⟩
   ·rw [List.length_reverse,ae4] at hi
    show (Ts.map V.ref).length ≤ i
    omega
   ·have hlt : i < ds.length:=by
     have:=(List.getElem?_eq_some_iff.mp hd).1
     rwa [List.length_reverse,ae4] at this
    refine ⟨show i < (Ts.map V.ref).length by omega,fun x H' ⟨z1,z2⟩=>?_⟩
    subst z1
    rw [List.getElem?_reverse (by rw [ae4]; exact hlt),ae4,aS5] at hd
    obtain ⟨d0,ed,rfl⟩:=Option.map_eq_some_iff.mp hd
    rw [el,List.getElem?_map] at z2
    obtain ⟨T,eT,rfl⟩:=Option.map_eq_some_iff.mp z2
    obtain ⟨x0,ex0,hT⟩:=t3.2 _ T eT
    obtain ⟨v0,ev0,rv0⟩:=w2.get ed
    rw [ev0] at ex0
    obtain rfl:=Option.some.inj ex0
    exact ⟨Hf4,Grow.refl sb,T,_,rfl,SqT.of (sa _ _ hT),.int _,[v0],rfl,rfl,v0,[],rfl,(rv0.mono g3.ext).mono sa,rfl⟩
 ·cases q
end
end G
namespace G
open PySem PySem.Spec PyProof.Rows L2
abbrev FnD:=List D → Option D
structure Sg where
 fn : List (Str × FnD × Nat)
 cs : List (Str × D)
 bl : List Str
structure Kx where
 N : List Str
 sc : Scope
 df : Bool
 own : List Nat
 cpt : List Nat
 tx : List Nat
 old : Bool
 fz : List (Nat × List Nat)
 hc : List ((Nat × Nat) × List Nat)
def biS (K : PySem.W.Frag) (n : Nat) (F : List D → Option D) : List V → Hp → VK → Prop:=fun vs H Q=>vs.length = n ∧ ∃ Hf ds d,F9 Hf H ∧ Reps K Hf ds vs ∧ F ds = some d ∧ ∀ v H' Hf',Grow H Hf H' Hf' → Rep K Hf' d v → Q v H'
def cm4 (x : Str) (F : FnD) (n : Nat) : Prop:=0 < n ∧ x ≠ "__name__" ∧ ∃ nm,bootBuiltins x = some (.builtin nm) ∧ ∀ X : Cx,X.A.units + 64 < cLine → U2 X (.builtin nm) (biS X.K n F)
theorem cs4 {X : Cx} {n : Nat} {F : FnD} {x : Str} {e : Expr} {es : List Expr} {g : Rho → Option (List D)} {p pos : Pos} (hb : cm4 x F n) (hu : X.A.units + 64 < cLine) (hg : Gl X x) (hm : X.mg x = none) (ha : JA X (e :: es) g) (hn : (e :: es).length = n) (hdb : (x == ("__debug__" : Str)) = false)
  (he : starEach (e :: es) X.env = (false,eval e X.env) :: starEach es X.env) (hpl : (backTo pos (starEach es X.env)).any (·.1) = false) : JE X (.Call (.Name x p) (e :: es) [] pos) (A9 F g):=fun ρ d q=>by
 obtain ⟨ds,h1,h2⟩:=Option.bind_eq_some_iff.mp q
 obtain ⟨_,hnn,nm,hv,hc⟩:=hb
 refine D4 (P8 (hc X hu) hg hm hv (ha.run ρ ds h1) hnn hdb he hpl) fun σ H Q ⟨H0,Hf,s,sl,kk⟩=>?_
 exact ⟨H0,Hf,s,sl,fun vs H1 Hf1 g1 r1=>⟨by rw [r1.length,ha.len ρ ds h1,hn],Hf1,ds,d,g1.sub,r1,h2,fun v H2 Hf2 g2 r2=>kk v H2 Hf2 (g1.trans g2) r2⟩⟩
def cx9 (X : Cx) (x : Str) (F : FnD) (n : Nat) : Prop:=(∃ (k : Nat) (f : Addr) (fd : FuncData) (ps : List Str),FnOk X.prog X.w X.K X.mg X.base CX0 k f fd ps (spF X.K n F) ∧ Room k X.A ∧ X.mg x = some (.ref f) ∧ PySem.W.keepIn X.K (.ref f) = true ∧ k7 X.K fd ps []) ∨ (X.mg x = none ∧ cm4 x F n)
structure Fit (S : Sg) (c : Kx) (X : Cx) : Prop where
 N : X.N = c.N
 sc : X.env.scope = c.sc
 nd : c.N.Nodup
 calm : X.calm = true
 xe : X.xe = fun _ _=>False
 units : X.A.units + 64 < cLine
 df : c.df = true → (∀ x,X.fn x = true) ∧ c.sc.kind = .function
 fns : ∀ x F n,S.fn.lookup x = some (F,n) → cx9 X x F n
 css : ∀ x d,S.cs.lookup x = some d → ∃ u,aV1 X.K d u ∧ X.mg x = some u
 bls : ∀ x,S.bl.contains x = true → X.mg x = none
def pl : Expr → Bool
 | .Starred ..=>false
 | .Slice ..=>false
 | .Set ..=>false
 | _=>true
def by0 : Expr → Bool
 | .Call ..=>false
 | _=>true
def isC : Expr → Bool
 | .ListComp ..=>true
 | .SetComp ..=>true
 | .DictComp ..=>true
 | _=>false
def plT : Expr → Bool
 | .UnaryOp ..=>false
 | .BoolOp ..=>false
 | .IfExp ..=>false
 | .Compare ..=>false
 | _=>true
def al2 (x : Str) : List Str → Option Nat
 | []=>none
 | y :: r=>if y == x then some 0 else (al2 x r).map (· + 1)
theorem aR2 {x : Str} : ∀ {l : List Str} {i : Nat},al2 x l = some i → l[i]? = some x
 | [],i,h=>by cases h
 | y :: r,i,h=>by
  unfold al2 at h
  split at h
  ·rename_i e
   cases h
   simp only [beq_iff_eq] at e
   subst e; rfl
  ·obtain ⟨j,h1,h2⟩:=Option.map_eq_some_iff.mp h
   subst h2
   simpa using aR2 h1
def as3 : List Str → Bool
 | []=>true
 | x :: r=>!(r.contains x) && as3 r
theorem as2 : ∀ {l : List Str},as3 l = true → l.Nodup
 | [],_=>List.nodup_nil
 | x :: r,h=>by
  unfold as3 at h
  simp only [Bool.and_eq_true,Bool.not_eq_true'] at h
  refine List.nodup_cons.mpr ⟨fun z=>?_,as2 h.2⟩
  have:=h.1
  rw [List.contains_iff_mem.mpr z] at this
  cases this
def bi5 (sc : Scope) (x : Str) : Bool:=(match sc.names.lookup x with | some .local=>true | some .cell=>true | some .free=>true | _=>false) && !(x == ("__debug__" : Str)) && !(x == ("__classdict__" : Str))
def bz2 (c : Kx) (x : Str) : Bool:=(match c.sc.names.lookup x with | some .local=>true | some .cell=>c.df | _=>false)
def bC7 (sc : Scope) (x : Str) : Bool:=(match sc.names.lookup x with | some .globalImplicit=>true | _=>false) && !(x == ("__debug__" : Str))
def biB (S : Sg) (c : Kx) (w x : Str) : Bool:=x == w && S.bl.contains w && bC7 c.sc w
section
variable {X : Cx} {S : Sg} {c : Kx}
theorem au7 {x : Str} (F : Fit S c X) (h : bi5 c.sc x = true) : Vis X.env.scope x ∧ (x == ("__debug__" : Str)) = false ∧ (x == ("__classdict__" : Str)) = false:=by
 unfold bi5 at h
 simp only [Bool.and_eq_true,Bool.not_eq_true'] at h
 obtain ⟨⟨h1,h2⟩,h3⟩:=h
 refine ⟨?_,h2,h3⟩
 rw [F.sc]
 unfold Vis
 split at h1
 ·rename_i e; exact .inl e
 ·rename_i e; exact .inr (.inl e)
 ·rename_i e; exact .inr (.inr e)
 ·cases h1
theorem bf9 {x : Str} (F : Fit S c X) (h : bz2 c x = true) : L2.Loc X.env.scope x ∧ (X.fn x = true ∨ X.env.scope.names.lookup x = some .local):=by
 unfold bz2 at h
 rw [F.sc]
 unfold L2.Loc
 split at h
 ·rename_i e; exact ⟨.inl e,.inr e⟩
 ·rename_i e; exact ⟨.inr e,.inl ((F.df h).1 x)⟩
 ·cases h
theorem aK3 {x : Str} (F : Fit S c X) (h : bC7 c.sc x = true) : Gl X x ∧ (x == ("__debug__" : Str)) = false:=by
 unfold bC7 at h
 simp only [Bool.and_eq_true,Bool.not_eq_true'] at h
 refine ⟨?_,h.2⟩
 unfold Gl Env.kindOf
 rw [F.sc]
 have h1:=h.1
 split at h1
 ·rename_i e; exact e
 ·cases h1
theorem M7 {w x : Str} (F : Fit S c X) (h : biB S c w x = true) : x = w ∧ Gl X w ∧ X.mg w = none:=by
 unfold biB at h
 simp only [Bool.and_eq_true,beq_iff_eq] at h
 exact ⟨h.1.1,(aK3 F h.2).1,F.bls _ h.1.2⟩
theorem G8 {e : Expr} (h : pl e = true) (es : List Expr) (env : Env) : starEach (e :: es) env = (false,eval e env) :: starEach es env:=by
 cases e <;> first | rfl | cases h
theorem bR9 {e : Expr} (h : pl e = true) : av8 e:=by
 intro o i
 cases e <;> first | rfl | cases h
theorem au9 {e : Expr} (h : pl e = true) (op : CmpOp) : behindInMarks op e = false:=by
 cases e <;> first | rfl | cases h
theorem be7 {e : Expr} (h : pl e = true) (env : Env) (x : Value) : foldedSetIterable e env x = pure x:=by
 cases e <;> first | rfl | cases h
theorem aQ1 {o : Expr} (h : by0 o = true) (attr : Str) (env : Env) (t : Sem Value) : attributeBase o attr env t = t:=by
 cases o <;> first | rfl | cases h
theorem ay5 {e : Expr} (h : isC e = false) (t : Option Expr) (l : Nat) (env : Env) : swapsWith e t l env = pure false:=by
 cases e <;> first | rfl | cases h
theorem bw0 {e : Expr} (h : plT e = true) (env : Env) (whole : Sem Value) : isTrue e env whole = (do let v ← whole; standAt e.pos; holding [v] (truthy v)):=by
 cases e <;> first | rfl | cases h
end
end G
namespace G
open PySem PySem.Spec PyProof.Rows L2
abbrev DA:=Rho → Option (List D)
abbrev DQ:=Rho → Option (Bool × List D)
abbrev DT:=Rho → Option Bool
abbrev DG:=D → Rho → Option Rho
def dNo : DE:=fun _=>none
def aNo : DA:=fun _=>none
def qNo : DQ:=fun _=>none
def tNo : DT:=fun _=>none
def gNo : DG:=fun _ _=>none
structure Ev where
 e : Kx → Expr → DE
 q : Kx → Expr → DQ
 n : Kx → Expr → DA
 t : Kx → Expr → DT
 g : Kx → Expr → DG
 b : Kx → List Stmt → DS
def bb0 : CmpOp → D → D → Option D
 | .Lt=>ltI | .LtE=>leI | .Gt=>gtI | .GtE=>geI | .Eq=>eqD | .NotEq=>neD | .Is=>isB | .IsNot=>bK8 | .In=>inD false | .NotIn=>inD true
def evA (f : Expr → DE) : List Expr → DA
 | []=>A7
 | e :: es=>if pl e then A5 (f e) (evA f es) else aNo
def bD7 (f : Expr → DE) (op : BoolOp) : List Expr → DE
 | []=>dNo
 | [a]=>f a
 | a :: b :: r=>match op with
  | .And=>G9 (f a) (bD7 f op (b :: r))
  | .Or=>dOr (f a) (bD7 f op (b :: r))
def bD6 (f : Expr → DT) (op : BoolOp) : List Expr → DT
 | []=>tNo
 | [a]=>f a
 | a :: b :: r=>match op with
  | .And=>M9 (f a) (bD6 f op (b :: r))
  | .Or=>D0 (f a) (bD6 f op (b :: r))
def evO (f : Expr → DE) : Option Expr → Rho → Option (Option Int)
 | none=>J8
 | some e=>E3 (f e)
def ck4 (f : Expr → DG) : List Expr → List D → Rho → Option Rho
 | []=>S6
 | e :: es=>K1 (f e) (ck4 f es)
def bD4 (f : Expr → DT) : List Expr → DT
 | []=>F7
 | [t]=>f t
 | _=>tNo
def W0 : Expr → List Str
 | .Name x _=>[x]
 | .Tuple es _ _=>es.filterMap fun | .Name x _=>some x | _=>none
 | _=>[]
def rl (scope sc : Scope) : Scope:={ scope with names:=scope.names.map fun (n,k)=>if (k == .free && sc.kind == .function && sc.names.lookup n == some .cell) then (n,.cell) else (n,k) }
def bC0 (n : Nat) (caps l : List Nat) : List Nat:=(List.range caps.length).filterMap fun i=>match caps[i]? with | some j=>if l.contains j then some (n + i) else none | none=>none
def co7 (c : Kx) (j : Nat) : Str:=(c.N[j]?).getD ""
def inner (c : Kx) (tn : List Str) (caps : List Nat) (scope : Scope) : Kx :=
 { N:=tn ++ caps.map (co7 c),sc:=rl scope c.sc,df:=false,own:=bC0 tn.length caps c.own,cpt:=[],tx:=bC0 tn.length caps c.tx,old:=c.old,fz:=[],hc:=c.hc }
def isList : Expr → Bool
 | .List ..=>true
 | .ListComp ..=>true
 | _=>false
def ao0 (c : Kx) (l : List Nat) : Expr → Bool
 | .Name x _=>(match al2 x c.N with | some i=>l.contains i | none=>false)
 | _=>false
def cj7 : Expr → Bool
 | .Constant (.str _) _ _=>true
 | _=>false
def cn6 (S : Sg) (c : Kx) : Expr → Bool
 | .Constant (.str _) _ _=>true
 | .Name x _=>(match al2 x c.N with | some _=>false | none=>(match S.cs.lookup x with | some (.str _)=>true | _=>false))
 | _=>false
def opW (S : Sg) (c : Kx) (op : CmpOp) (b : Expr) : D → D → Option D:=if cn6 S c b then (match op with
 | .In=>inS false
 | .NotIn=>inS true
 | _=>bb0 op) else bb0 op
def aR6 : Expr → Bool
 | .Tuple ..=>true
 | _=>false
def bU6 (x : Str) : Option String:=if x == "int" then some "int" else if x == "bool" then some "bool" else if x == "str" then some "str" else if x == "tuple" then some "tuple" else if x == "list" then some "list" else none
section
variable (S : Sg) (r : Ev)
def evR (c : Kx) (tg : Expr) (a : Expr) : DA:=match a with
 | .Call (.Name y _) [.Call (.Name z _) [b] [] _] [] _=>if biB S c "list" y && biB S c "enumerate" z && aR6 tg && pl b then cs6 (qE (r.e c b)) else fun _=>none
 | _=>fun _=>none
def evI (c : Kx) (tg it : Expr) : DA:=match it with
 | .Call (.Name x _) [a] [] _=>if biB S c "reversed" x then evR S r c tg a else if biB S c "range" x && pl a then K0 (r.e c a) else if biB S c "enumerate" x && aR6 tg && pl a then bB9 (qE (r.e c a)) else F0 (r.e c it)
 | .Call (.Name x _) [a,b] [] _=>if biB S c "range" x && pl a && pl b then bT0 (r.e c a) (r.e c b) else if biB S c "zip" x && aR6 tg && pl a && pl b then as6 (qE (r.e c a)) (qE (r.e c b)) else F0 (r.e c it)
 | _=>if ao0 c c.tx it then aR8 (r.e c it) else F0 (r.e c it)
def evC (c : Kx) (ex : Expr) : DA:=match ex with
 | .ListComp elt [⟨tgt,iter,ifs,0⟩] scope pos =>
  let tn:=W0 tgt
  let caps:=(c.hc.lookup (pos.line,pos.col)).getD []
  let c':=inner c tn caps scope
  if av7 c.N c'.N tn.length caps c.sc scope && as3 c'.N && pl iter then D2 tn.length caps (evI S r c tgt iter) (r.g c' tgt) (bD4 (r.t c') ifs) (r.e c' elt) else aNo
 | _=>aNo
def aV5 (c : Kx) (x : Str) (a : Expr) : DE :=
 if !(pl a) then dNo
 else if biB S c "len" x then (match a with
  | .Call (.Name y _) [e] [] _=>if biB S c "set" y && pl e then ah1 (r.q c e) else E5 (r.q c a)
  | _=>if ao0 c c.tx a then aF3 (r.e c a) else E5 (r.q c a))
 else if biB S c "tuple" x then N6 (r.q c a)
 else if biB S c "all" x then U6 (r.q c a)
 else if biB S c "int" x then r8 (r.e c a)
 else if biB S c "str" x then ba7 (r.e c a)
 else if biB S c "abs" x then ct7 (r.e c a)
 else if biB S c "min" x then bT3 (r.q c a)
 else if biB S c "max" x then bT5 (r.q c a)
 else dNo
def aV4 (c : Kx) (x : Str) (a b : Expr) : DE :=
 if !(pl a) then dNo
 else if biB S c "isinstance" x then (match b with
  | .Name y _=>(match bU6 y with
   | some T=>if biB S c y y then D5 T (r.e c a) else dNo
   | none=>dNo)
  | _=>dNo)
 else if !(pl b) then dNo
 else if biB S c "min" x then bT4 (r.e c a) (r.e c b)
 else if biB S c "max" x then bT6 (r.e c a) (r.e c b)
 else dNo
def bt0 (c : Kx) (x : Str) (args : List Expr) (ex : Expr) : DE:=match S.fn.lookup x with
 | some (F,n)=>if bC7 c.sc x && args.length == n && args.all pl then A9 F (evA (r.e c) args) else dNo
 | none=>match args with
  | [a]=>if biB S c "list" x then E4 (r.n c ex) else aV5 S r c x a
  | [a,b]=>aV4 S r c x a b
  | _=>dNo
def bU0 (c : Kx) (a i : Expr) : DE:=match i with
 | .Slice lo hi none _ =>
  if c.old then r6 (r.e c a) (evO (r.e c) lo) (evO (r.e c) hi)
  else if ao0 c c.tx a then bp5 (r.e c a) (evO (r.e c) lo) (evO (r.e c) hi)
  else if ao0 c c.own a then bp6 (r.q c a) (evO (r.e c) lo) (evO (r.e c) hi)
  else al6 (r.e c a) (evO (r.e c) lo) (evO (r.e c) hi)
 | .Slice none none (some (.UnaryOp .USub (.Constant (.int 1) _ _) _)) _=>bh0 (r.e c a)
 | _=>if pl i then (if cj7 a then ac0 (r.e c a) (r.e c i) else dIx (r.q c a) (r.e c i)) else dNo
def xE (c : Kx) (ex : Expr) : DE:=match ex with
 | .Constant .none _ _=>dC .none
 | .Constant (.bool b) _ _=>dC (.bool b)
 | .Constant (.int i) _ _=>dC (.int i)
 | .Constant (.str x) _ _=>dC (.str x)
 | .Name x _=>(match al2 x c.N with
  | some i=>if bi5 c.sc x then A6 i else dNo
  | none=>(match S.cs.lookup x with
   | some d=>if bC7 c.sc x then dC d else dNo
   | none=>dNo))
 | .Tuple es _ _=>if es.length ≤ 1000 then C2 (evA (r.e c) es) else dNo
 | .List _ _=>E4 (r.n c ex)
 | .ListComp _ _ _ _=>E4 (r.n c ex)
 | .BinOp a .Add b _=>if c.old && !(isList a || isList b) then B0 T3 (r.e c a) (r.e c b) else B0 C5 (r.e c a) (r.e c b)
 | .BinOp a .Sub b _=>B0 aj5 (r.e c a) (r.e c b)
 | .BinOp a .Mult b _=>if c.old then B0 W9 (r.e c a) (r.e c b) else (match a with
  | .Subscript v _ _=>if ao0 c c.tx v then B0 bm8 (r.e c a) (r.e c b) else B0 G3 (r.e c a) (r.e c b)
  | _=>B0 G3 (r.e c a) (r.e c b))
 | .BinOp a .FloorDiv b _=>B0 T8 (r.e c a) (r.e c b)
 | .BinOp a .Mod b _=>B0 P3 (r.e c a) (r.e c b)
 | .BinOp a .Pow b _=>B0 bk0 (r.e c a) (r.e c b)
 | .UnaryOp .USub a _=>ab3 (r.e c a)
 | .UnaryOp .Not a _=>ab2 (r.e c a)
 | .Compare a [op] [b] _=>if pl b then B0 (opW S c op b) (r.e c a) (r.e c b) else dNo
 | .Compare a [op,op'] [b,d] _=>if pl d then D9 (bb0 op) (bb0 op') (r.e c a) (r.e c b) (r.e c d) else dNo
 | .BoolOp op vs _=>bD7 (r.e c) op vs
 | .IfExp t a b _=>as8 (r.t c t) (r.e c a) (r.e c b)
 | .Subscript a i _=>bU0 r c a i
 | .Call (.Attribute o m apos) [a] [] cpos=>if m == "join" && by0 o && apos.endLine == cpos.line && pl a then az7 (r.e c o) (r.q c a) else dNo
 | .Call (.Name x _) args [] _=>bt0 S r c x args ex
 | _=>dNo
def xQ (c : Kx) (ex : Expr) : DQ:=match ex with
 | .Name x _=>(match al2 x c.N with
  | some i=>if bi5 c.sc x then B1 i else qNo
  | none=>qE (r.e c ex))
 | .List _ _=>qN (r.n c ex)
 | .ListComp _ _ _ _=>qN (r.n c ex)
 | .Call (.Name x _) [_] [] _=>if biB S c "list" x then qN (r.n c ex) else qE (r.e c ex)
 | _=>qE (r.e c ex)
def xN (c : Kx) (ex : Expr) : DA:=match ex with
 | .List es _=>if es.length ≤ 1000 then evA (r.e c) es else aNo
 | .ListComp _ _ _ _=>evC S r c ex
 | .Call (.Name x _) [a] [] _=>if biB S c "list" x && pl a then (fun ρ=>(r.q c a ρ).map fun q=>q.2) else aNo
 | .BinOp a .Add b _=>aB7 (r.q c a) (r.q c b)
 | _=>aNo
def xT (c : Kx) (ex : Expr) : DT:=match ex with
 | .Compare a [op] [b] _=>if pl b then tB2 (opW S c op b) (r.e c a) (r.e c b) else tNo
 | .Compare a [op,op'] [b,d] _=>if pl d then Y4 (D9 (bb0 op) (bb0 op') (r.e c a) (r.e c b) (r.e c d)) else tNo
 | .BoolOp op vs _=>bD6 (r.t c) op vs
 | .UnaryOp .Not a _=>B6 (r.t c a)
 | _=>if plT ex then C3 (r.e c ex) else tNo
def xG (c : Kx) (ex : Expr) : DG:=match ex with
 | .Name x _=>(match al2 x c.N with
  | some i=>if bz2 c x then C9 i else gNo
  | none=>gNo)
 | .Tuple es _ _=>if es.all pl then R6 es.length (ck4 (r.g c) es) else gNo
 | _=>gNo
def cp9 (c : Kx) (x y : Str) (px py : Pos) (a b : Expr) : Bool :=
 c.df && pl a && pl b && !(x == y) && px.line == py.line && c.sc.names.lookup x == some .local && c.sc.names.lookup y == some .local && !(([a,b] : List Expr).all (foldedForSure 8)) && !(([a,b] : List Expr).all (constantsAlone 8))
def bU2 (c : Kx) (tg v : Expr) (p : Pos) : DS:=match tg with
 | .Name x p'=>(match al2 x c.N with
  | none=>O1
  | some i=>if !(bz2 c x) then O1 else (match v with
   | .ListComp _ _ sc pv=>if c.sc.names.lookup x == some .local then
     (if c.df && p'.line == pv.line && !(sc.names.any fun (n,k)=>n == x && (k == .local || k == .cell)) then (if c.own.contains i then U4 i (evC S r c v) else P7 i (evC S r c v)) else O1)
    else D3 i (r.e c v)
   | _=>if isC v then O1 else if c.own.contains i then U4 i (r.n c v) else D3 i (r.e c v)))
 | .Subscript (.Name x _) (.Slice lo hi none _) _=>(match al2 x c.N with
  | none=>O1
  | some i=>if bi5 c.sc x && !(isC v) then bu9 i (evO (r.e c) lo) (evO (r.e c) hi) (r.n c v) else O1)
 | .Tuple [.Name x px,.Name y py] _ _=>(match v with
  | .Tuple [a,b] _ _=>(match al2 x c.N,al2 y c.N with
   | some i,some j=>if cp9 c x y px py a b then bv0 i j (evA (r.e c) [a,b]) else O1
   | _,_=>O1)
  | .Tuple _ _ _=>O1
  | _=>x3 (r.e c v) (r.g c tg))
 | .Tuple es _ _=>if aR6 v && (es.length == 2 || es.length == 3) then O1 else x3 (r.e c v) (r.g c tg)
 | _=>O1
def bU1 (c : Kx) (x m : Str) (e : Expr) : DS:=match al2 x c.N with
 | none=>O1
 | some i=>if bi5 c.sc x && pl e then (if m == "append" then T1 i (r.e c e) else if m == "extend" then aX0 i (r.e c e) else O1) else O1
def xS0 (c : Kx) (st : Stmt) : DS:=match st with
 | .Return (some e) _=>B5 (r.e c e)
 | .If t a b _=>sIf (r.t c t) (r.b c a) (r.b c b)
 | .While t a [] _=>w9 (r.t c t) (r.b c a)
 | .For tg it a [] _=>if pl it then W3 (evI S r c tg it) (r.g c tg) (r.b c a) else O1
 | .Assign [tg] v p=>bU2 S r c tg v p
 | .Expr (.Call (.Attribute (.Name x _) m apos) [e] [] cpos) _=>if apos.endLine == cpos.line then bU1 r c x m e else O1
 | .Continue _=>bR6
 | .Break _=>fun ρ=>some (.bk ρ)
 | .Pass _=>C7
 | _=>O1
def ce5 : Stmt → Nat
 | .Return _ p=>p.line
 | .If _ _ _ p=>p.line
 | .While _ _ _ p=>p.line
 | .For _ _ _ _ p=>p.line
 | .Assign _ _ p=>p.line
 | .Expr _ p=>p.line
 | _=>0
def fzW (g : DS) : Option (List Nat) → DS
 | none=>g
 | some l=>l.foldl (fun g i=>ak6 i g) g
def xS (c : Kx) (st : Stmt) : DS:=fzW (xS0 S r c st) (c.fz.lookup (ce5 st))
def evB (f : Stmt → DS) : List Stmt → DS
 | []=>C7
 | [s]=>f s
 | s :: t :: T2=>B4 (f s) (evB f (t :: T2))
def step : Ev:=⟨xE S r,xQ S r,xN S r,xT S r,xG r,fun c=>evB (xS S r c)⟩
end
def ev (S : Sg) : Nat → Ev
 | 0=>⟨fun _ _=>dNo,fun _ _=>qNo,fun _ _=>aNo,fun _ _=>tNo,fun _ _=>gNo,fun _ _=>O1⟩
 | n + 1=>step S (ev S n)
end G
namespace Sh
open PySem PySem.Spec PyProof.Rows L2 G
def t8 : DS:=(B5 (G9 (D5 "str" (A6 0)) (G9 (D9 leI leI (dC (.int 1)) (aF3 (A6 0)) (dC (.int 6))) (U6 (qN (D2 1 [] (aR8 (A6 0)) (C9 0) F7 (B0 (inS false) (A6 0) (dC (.str "abcdefghijklmnopqrstuvwxyz")))))))))
def U7 : List D → Option D:=F8 t8 1
def aA9 : DS:=(B5 (D5 "bool" (A6 0)))
def f7 : List D → Option D:=F8 aA9 1
def V8 : DS:=(B5 (G9 (A9 L7 (A5 (A6 0) A7)) (D9 leI leI (ab3 (dC (.int 9))) (A6 0) (dC (.int 9)))))
def T0 : List D → Option D:=F8 V8 1
def ah3 : DS:=(B4 (sIf (tB2 isB (A6 0) (dC .none)) (B5 (dC (.bool true))) C7) (B4 (sIf (D0 (B6 (C3 (D5 "tuple" (A6 0)))) (tB2 neD (E5 (B1 0)) (E5 (qE (dIx (B1 1) (dC (.int 2))))))) (B5 (dC (.bool false))) C7) (B5 (U6 (qN (D2 1 [] (F0 (A6 0)) (C9 0) F7 (A9 G1 (A5 (A6 0) A7))))))))
def u6 : List D → Option D:=F8 ah3 2
def J2 : DS:=(B4 (sIf (D0 (tB2 neD (E5 (B1 0)) (dC (.int 9))) (D0 (tB2 (inD true) (A9 O0 (A5 (A6 0) A7)) (dC (.tuple [(.str "over"),(.str "multiply"),(.str "screen"),(.str "plus"),(.str "atop"),(.str "cut")]))) (B6 (C3 (A9 K4 (A5 (A9 Z7 (A5 (A6 0) A7)) A7)))))) (B5 (dC (.bool false))) C7) (B5 (G9 (A9 T0 (A5 (A9 ah7 (A5 (A6 0) A7)) A7)) (G9 (A9 T0 (A5 (A9 ap4 (A5 (A6 0) A7)) A7)) (A9 u6 (A5 (A9 ah6 (A5 (A6 0) A7)) (A5 (A9 Z7 (A5 (A6 0) A7)) A7)))))))
def K6 : List D → Option D:=F8 J2 1
def E1 (self : Nat → List D → Option D) : DS:=(B4 (sIf (D0 (tB2 neD (E5 (B1 0)) (dC (.int 6))) (D0 (tB2 (inD true) (A9 O0 (A5 (A6 0) A7)) (dC (.tuple [(.str "over"),(.str "multiply"),(.str "screen"),(.str "plus"),(.str "atop"),(.str "cut")]))) (tB2 eqD (A6 1) (dC (.int 0))))) (B5 (dC (.bool false))) C7) (B5 (A9 (self 2) (A5 (A9 J5 (A5 (A6 0) A7)) (A5 (B0 aj5 (A6 1) (dC (.int 1))) A7)))))
def F5 (self : Nat → List D → Option D) : DS:=(B4 (sIf (D0 (B6 (C3 (D5 "tuple" (A6 0)))) (tB2 ltI (E5 (B1 0)) (dC (.int 5)))) (B5 (dC (.bool false))) C7) (B4 (sIf (D0 (B6 (C3 (A9 U7 (A5 (A9 M0 (A5 (A6 0) A7)) A7)))) (D0 (B6 (C3 (A9 G1 (A5 (A9 P0 (A5 (A6 0) A7)) A7)))) (B6 (C3 (A9 f7 (A5 (A9 f8 (A5 (A6 0) A7)) A7)))))) (B5 (dC (.bool false))) C7) (B4 (sIf (C3 (A9 ab8 (A5 (A6 0) A7))) (B5 (A9 K6 (A5 (A6 0) A7))) C7) (B4 (sIf (C3 (A9 M8 (A5 (A6 0) A7))) (B5 (A9 (self 0) (A5 (A6 0) (A5 (A6 1) A7)))) C7) (B5 (G9 (A9 ai0 (A5 (A6 0) A7)) (G9 (B0 eqD (E5 (B1 0)) (dC (.int 5))) (B0 (inD false) (A9 ah5 (A5 (A6 0) A7)) (dC (.tuple [(.str "turn"),(.str "grey"),(.str "round")]))))))))))
def Q3 (self : Nat → List D → Option D) : DS:=(B5 (G9 (D5 "tuple" (A6 0)) (U6 (qN (D2 1 [1] (F0 (A6 0)) (C9 0) F7 (A9 (self 1) (A5 (A6 0) (A5 (A6 1) A7))))))))
def A8 : Nat → Nat → List D → Option D
 | 0=>fun _ _=>none
 | k + 1=>fun i=>match i with
  | 0=>F8 (E1 (A8 k)) 2
  | 1=>F8 (F5 (A8 k)) 2
  | 2=>F8 (Q3 (A8 k)) 2
  | _=>fun _=>none
def C4 (k : Nat) : List D → Option D:=A8 k 0
def C1 (k : Nat) : List D → Option D:=A8 k 1
def M4 (k : Nat) : List D → Option D:=A8 k 2
def V1 (self : List D → Option D) : DS:=(B4 (U4 1 A7) (B4 (W3 (F0 (A6 0)) (C9 2) (B4 (T1 1 (A9 M0 (A5 (A6 2) A7))) (sIf (C3 (A9 M8 (A5 (A6 2) A7))) (aX0 1 (A9 self (A5 (A9 J5 (A5 (A6 2) A7)) A7))) C7))) (ak6 1 (B5 (A6 1)))))
def D1 : Nat → List D → Option D
 | 0=>fun _=>none
 | k + 1=>F8 (V1 (D1 k)) 3
def Z6 : DS:=(B4 (D3 1 (A9 (D1 12) (A5 (A6 0) A7))) (B5 (B0 eqD (ah1 (B1 1)) (E5 (B1 1)))))
def L8 : List D → Option D:=F8 Z6 2
def O9 : DS:=(B5 (G9 (A9 K3 (A5 (A6 0) A7)) (G9 (A9 (M4 12) (A5 (dIx (B1 0) (dC (.int 2))) (A5 (dC (.int 3)) A7))) (A9 L8 (A5 (dIx (B1 0) (dC (.int 2))) A7)))))
def Q8 : List D → Option D:=F8 O9 1
end Sh
namespace Sh
open PySem G
theorem S2 (i j : Int) : neD (.int i) (.int j) = some (.bool (!(i == j))):=rfl
theorem g9 (i j : Int) : eqD (.int i) (.int j) = some (.bool (i == j)):=rfl
theorem bg3 {t : Rho → Option Bool} {f : DS} {n : Nat} {ρ ρ' : Rho} (h1 : t ρ = some true) (h2 : f ρ = some (.nx ρ')) : V4 t f (n + 1) ρ = V4 t f n ρ':=by
 simp only [V4,h1,h2,xbs,if_true]
theorem bD0 : ∀ (b a : Nat) (x : Option B),∃ n x',V4 (tB2 neD (A6 1) (dC (.int 0))) (B4 (D3 2 (B0 P3 (A6 0) (A6 1))) (B4 (D3 0 (A6 1)) (D3 1 (A6 2)))) n [‹.int a›,‹.int b›,x]
  = some (.nx [‹.int (Nat.gcd a b)›,‹.int 0›,x']):=by
 intro b
 induction b using Nat.strongRecOn with
 | _ b ih =>
  intro a x
  by_cases hb : b = 0
  ·subst hb
   refine ⟨1,x,?_⟩
   rw [Nat.gcd_zero_right]
   rfl
  ·obtain ⟨n,x',h⟩:=ih (a % b) (Nat.mod_lt _ (Nat.pos_of_ne_zero hb)) b (‹.int ((a % b : Nat) : Int)›)
   refine ⟨n + 1,x',?_⟩
   have e1 : tB2 neD (A6 1) (dC (.int 0)) [‹.int a›,‹.int b›,x] = some true:=by
    show (neD (.int b) (.int 0)).bind C6 = some true
    rw [S2]
    have : ((b : Int) == 0) = false:=by simp; omega
    rw [this]; rfl
   have e2 : P3 (.int a) (.int b) = some (.int ((a % b : Nat) : Int)):=by
    show (if (0 : Int) < (b : Int) then some (PyData.int ((a : Int) % (b : Int))) else none) = _
    rw [if_pos (by omega)]
    simp
   have e3 : B4 (D3 2 (B0 P3 (A6 0) (A6 1))) (B4 (D3 0 (A6 1)) (D3 1 (A6 2))) [‹.int a›,‹.int b›,x] = some (.nx [‹.int b›,‹.int ((a % b : Nat) : Int)›,‹.int ((a % b : Nat) : Int)›]):=by
    show ((((P3 (.int a) (.int b))).map fun d=>Fl.nx [‹.int a›,‹.int b›,some (.val d)]).bind _) = _
    rw [e2]
    rfl
   rw [bg3 e1 e3,h,Nat.gcd_comm b,Nat.gcd_comm a b,← Nat.gcd_rec]
theorem bG0 (a b : Nat) : L1 [.int a,.int b] = some (.int (Nat.gcd a b)):=by
 obtain ⟨n,x',h⟩:=bD0 b a none
 show ((w9 _ _ [‹.int a›,‹.int b›,none]).bind _).bind _ = _
 rw [aD8 h]
 rfl
theorem bm9 : ∀ (a b : Nat) (t u : D),∃ n,V4 (tB2 gtI (A6 2) (dC (.int 0))) (bv0 2 3 (A5 (B0 P3 (A6 3) (A6 2)) (A5 (A6 2) A7))) n [some (.val t),some (.val u),‹.int a›,‹.int b›]
  = some (.nx [some (.val t),some (.val u),‹.int 0›,‹.int (Nat.gcd a b)›]):=by
 intro a
 induction a using Nat.strongRecOn with
 | _ a ih =>
  intro b t u
  by_cases ha : a = 0
  ·subst ha
   refine ⟨1,?_⟩
   rw [Nat.gcd_zero_left]
   rfl
  ·obtain ⟨n,h⟩:=ih (b % a) (Nat.mod_lt _ (Nat.pos_of_ne_zero ha)) a t u
   refine ⟨n + 1,?_⟩
   have e1 : tB2 gtI (A6 2) (dC (.int 0)) [some (.val t),some (.val u),‹.int a›,‹.int b›] = some true:=by
    show some (decide ((0 : Int) < (a : Int))) = some true
    rw [decide_eq_true (by omega)]
   have e2 : P3 (.int b) (.int a) = some (.int ((b % a : Nat) : Int)):=by
    show (if (0 : Int) < (a : Int) then some (PyData.int ((b : Int) % (a : Int))) else none) = _
    rw [if_pos (by omega)]
    simp
   have e3 : bv0 2 3 (A5 (B0 P3 (A6 3) (A6 2)) (A5 (A6 2) A7)) [some (.val t),some (.val u),‹.int a›,‹.int b›] = some (.nx [some (.val t),some (.val u),‹.int ((b % a : Nat) : Int)›,‹.int a›]):=by
    show ((P3 (.int b) (.int a)).bind fun d=>(some [PyData.int (a : Int)]).map fun ds=>d :: ds).bind _ = _
    rw [e2]
    rfl
   rw [bg3 e1 e3,h,← Nat.gcd_rec]
def fr (r : Rat) : D:=.tuple [.int r.num,.int r.den]
theorem J3 {i : Int} {k : Nat} (h : i.natAbs < 2 ^ k) (hk : k ≤ 8000) : G5 i:=Nat.lt_of_lt_of_le h (Nat.pow_le_pow_right (by decide) hk)
theorem an6 (a b : Nat) (hb : 0 < b) : fr (mkRat a b) = .tuple [.int ((a / Nat.gcd a b : Nat) : Int),.int ((b / Nat.gcd a b : Nat) : Int)]:=by
 unfold fr
 rw [Rat.num_mkRat,Rat.den_mkRat,if_neg (by omega),if_neg (by omega)]
 have e : b.gcd (a : Int).natAbs = Nat.gcd a b:=by rw [Int.natAbs_natCast,Nat.gcd_comm]
 rw [e]
 simp
theorem bg8 (a b x k : Nat) (hb : 0 < b) (hk : b < 2 ^ k) (hk8 : k ≤ 8000) : T8 (.int x) (.int (Nat.gcd a b)) = some (.int ((x / Nat.gcd a b : Nat) : Int)):=by
 have g0 : 0 < Nat.gcd a b:=Nat.gcd_pos_of_pos_right _ hb
 have gs : G5 (Nat.gcd a b : Nat):=J3 (k:=k) (by rw [Int.natAbs_natCast]; exact Nat.lt_of_le_of_lt (Nat.le_of_dvd hb (Nat.gcd_dvd_right a b)) hk) hk8
 show (if (0 : Int) < ((Nat.gcd a b : Nat) : Int) ∧ G5 (Nat.gcd a b : Nat) then some (PyData.int ((x : Int) / ((Nat.gcd a b : Nat) : Int))) else none) = _
 rw [if_pos ⟨by omega,gs⟩]
 simp
theorem bR1 (a b k : Nat) (hb : 0 < b) (hk : b < 2 ^ k) (hk8 : k ≤ 8000) : ap5 [.int a,.int b] = some (fr (mkRat a b)):=by
 have d:=fun x=>bg8 a b x k hb hk hk8
 have e : X8 [‹.int a›,‹.int b›,none] = some (.rt (fr (mkRat a b))):=by
  rw [an6 a b hb]
  simp only [X8,B4,D3,A9,A5,A7,A6,xg0,xg1,xbs,xms,bG0,xw1,xw0,B5,C2,B0,d]
 show (X8 [‹.int a›,‹.int b›,none]).bind _ = _
 rw [e]; rfl
theorem aN1 (a b k : Nat) (hb : 0 < b) (hk : b < 2 ^ k) (hk8 : k ≤ 8000) : Z9 [.int a,.int b] = some (fr (mkRat a b)):=by
 have d:=fun x=>bg8 a b x k hb hk hk8
 obtain ⟨n,h⟩:=bm9 a b (.int a) (.int b)
 have e : ap3 [‹.int a›,‹.int b›,none,none] = some (.rt (fr (mkRat a b))):=by
  rw [an6 a b hb]
  simp only [ap3,B4,D3,A9,A5,A7,A6,xg0,xg1,xbs,xms,xw1,xw0,B5,C2,B0,d,aD8 h]
 show (ap3 [‹.int a›,‹.int b›,none,none]).bind _ = _
 rw [e]; rfl
structure Bd (k : Nat) (r : Rat) : Prop where
 nn : 0 ≤ r
 num : r.num.natAbs < 2 ^ k
 den : r.den < 2 ^ k
theorem Bd.mono {j k : Nat} {r : Rat} (h : Bd j r) (l : j ≤ k) : Bd k r:=⟨h.nn,Nat.lt_of_lt_of_le h.num (Nat.pow_le_pow_right (by decide) l),Nat.lt_of_lt_of_le h.den (Nat.pow_le_pow_right (by decide) l)⟩
theorem Bd.nat {k : Nat} {r : Rat} (h : Bd k r) : r.num = (r.num.natAbs : Int):=by
 have:=Rat.num_nonneg.mpr h.nn
 omega
theorem by8 (a b : Nat) : 0 ≤ mkRat (a : Int) b:=by
 rw [← Rat.num_nonneg,Rat.num_mkRat]
 split
 ·exact Int.le_refl _
 ·exact Int.ediv_nonneg (by omega) (by omega)
theorem Bd.of {a b k : Nat} (hb : 0 < b) (h1 : a < 2 ^ k) (h2 : b < 2 ^ k) : Bd k (mkRat a b):=by
 refine ⟨by8 a b,?_,?_⟩
 ·rw [Rat.num_mkRat,if_neg (by omega)]
  rw [show ((a : Int) / ((b.gcd (a : Int).natAbs : Nat) : Int)) = ((a / b.gcd (a : Int).natAbs : Nat) : Int) by simp,Int.natAbs_natCast]
  exact Nat.lt_of_le_of_lt (Nat.div_le_self _ _) h1
 ·rw [Rat.den_mkRat,if_neg (by omega)]
  exact Nat.lt_of_le_of_lt (Nat.div_le_self _ _) h2
theorem aa0 {a b j k : Nat} (h1 : a < 2 ^ j) (h2 : b < 2 ^ k) : a * b < 2 ^ (j + k):=by
 rw [Nat.pow_add]
 exact Nat.mul_lt_mul'' h1 h2
theorem aI0 {j k : Nat} {r s : Rat} (hr : Bd j r) (hs : Bd k s) : r * s = mkRat ((r.num.natAbs * s.num.natAbs : Nat) : Int) (r.den * s.den):=by
 rw [Rat.mul_def,Rat.normalize_eq_mkRat,Int.natCast_mul,← hr.nat,← hs.nat]
theorem O4 (r : Rat) : 0 < r.den:=Nat.pos_of_ne_zero r.den_nz
theorem Bd.mul {j k : Nat} {r s : Rat} (hr : Bd j r) (hs : Bd k s) : Bd (j + k) (r * s):=by
 rw [aI0 hr hs]
 exact Bd.of (Nat.mul_pos (O4 r) (O4 s)) (aa0 hr.num hs.num) (aa0 hr.den hs.den)
theorem Bd.one : Bd 1 1:=⟨by decide,by decide,by decide⟩
theorem Bd.zero : Bd 1 0:=⟨by decide,by decide,by decide⟩
theorem Bd.sn {k : Nat} {r : Rat} (h : Bd k r) (hk : k ≤ 8000) : G5 r.num:=J3 h.num hk
theorem Bd.sd {k : Nat} {r : Rat} (h : Bd k r) (hk : k ≤ 8000) : G5 r.den:=J3 (k:=k) (by rw [Int.natAbs_natCast]; exact h.den) hk
theorem P9 {i j : Int} (h1 : G5 i) (h2 : G5 j) : W9 (.int i) (.int j) = some (.int (i * j)):=by
 show (if G5 i ∧ G5 j then some (PyData.int (i * j)) else none) = _
 rw [if_pos ⟨h1,h2⟩]
theorem Z3 (i j : Int) : T3 (.int i) (.int j) = some (.int (i + j)):=rfl
theorem Y5 (i j : Int) : aj5 (.int i) (.int j) = some (.int (i - j)):=rfl
theorem f9 (i j : Int) : leI (.int i) (.int j) = some (.bool (decide (i ≤ j))):=rfl
theorem aj1 (a b : D) : L2.atI [a,b] 0 = some a:=rfl
theorem aj0 (a b : D) : L2.atI [a,b] 1 = some b:=rfl
theorem ix0 {ρ : Rho} {i : Nat} {r : Rat} (h : ρ[i]? = some (‹fr r›)) : dIx (B1 i) (dC (.int 0)) ρ = some (.int r.num):=by
 simp only [dIx,B1,h,fr,dC,xbs,aj1]
theorem ix1 {ρ : Rho} {i : Nat} {r : Rat} (h : ρ[i]? = some (‹fr r›)) : dIx (B1 i) (dC (.int 1)) ρ = some (.int r.den):=by
 simp only [dIx,B1,h,fr,dC,xbs,aj0]
theorem v0 (x : Option B) (l : Rho) : (x :: l)[0]? = some x:=rfl
theorem v1 (y x : Option B) (l : Rho) : (y :: x :: l)[1]? = some x:=rfl
theorem cm1 {j k : Nat} {r s : Rat} (hr : Bd j r) (hs : Bd k s) (l : j + k ≤ 8000) : bR0 [fr r,fr s] = some (fr (r * s)):=by
 have e : av9 [‹fr r›,‹fr s›] = some (.rt (fr (r * s))):=by
  simp only [av9,B5,A9,A5,A7,B0,ix0 (v0 _ _),ix1 (v0 _ _),ix0 (v1 _ _ _),ix1 (v1 _ _ _),xbs,xms,P9 (hr.sn (by omega)) (hs.sn (by omega)),P9 (hr.sd (by omega)) (hs.sd (by omega))]
  have:=bR1 (r.num.natAbs * s.num.natAbs) (r.den * s.den) (j + k) (Nat.mul_pos (O4 r) (O4 s)) (aa0 hr.den hs.den) l
  rw [← aI0 hr hs,Int.natCast_mul,Int.natCast_mul,← hr.nat,← hs.nat] at this
  rw [this]; rfl
 show (av9 [‹fr r›,‹fr s›]).bind _ = _
 rw [e]; rfl
theorem ae8 {j k : Nat} {r s : Rat} (hr : Bd j r) (hs : Bd k s) (l : j + k ≤ 8000) : Y0 [fr r,fr s] = some (.bool (decide (r ≤ s))):=by
 have e : X9 [‹fr r›,‹fr s›] = some (.rt (.bool (decide (r ≤ s)))):=by
  simp only [X9,B5,A9,A5,A7,B0,ix0 (v0 _ _),ix1 (v0 _ _),ix0 (v1 _ _ _),ix1 (v1 _ _ _),xbs,xms,P9 (hr.sn (by omega)) (hs.sd (by omega)),P9 (hs.sn (by omega)) (hr.sd (by omega)),f9]
  simp only [← Rat.le_iff]
 show (X9 [‹fr r›,‹fr s›]).bind _ = _
 rw [e]; rfl
end Sh
set_option exponentiation.threshold 9000
namespace Sh
open PySem G L2
theorem ai4 (i j : Int) : ltI (.int i) (.int j) = some (.bool (decide (i < j))):=rfl
theorem ae3 (i j : Int) : gtI (.int i) (.int j) = some (.bool (decide (j < i))):=rfl
theorem ax8 {α : Type} (x : α) : List.replicate 0 x = []:=rfl
theorem ax7 {α : Type} (x : α) : List.replicate 1 x = [x]:=rfl
theorem ax6 {α : Type} (x : α) : List.replicate 2 x = [x,x]:=rfl
theorem ae5 (a b c d : D) : P5 [a,b,c,d] (some 1) none = [b,c,d]:=rfl
theorem am2 (a b c d : D) : L2.atI [a,b,c,d] 0 = some a:=rfl
theorem am1 (a b c d : D) : L2.atI [a,b,c,d] 1 = some b:=rfl
theorem am0 (a b c d : D) : L2.atI [a,b,c,d] 2 = some c:=rfl
theorem al9 (a b c d : D) : L2.atI [a,b,c,d] 3 = some d:=rfl
theorem am4 (a b c : D) : L2.atI [a,b,c] 0 = some a:=rfl
theorem am3 (a b c : D) : L2.atI [a,b,c] 1 = some b:=rfl
theorem ab4 (a b c : D) : L2.atI [a,b,c] 2 = some c:=rfl
theorem o8 {n k : Nat} (h : n < 2 ^ k) (hk : k ≤ 8000) : G5 (n : Int):=J3 (k:=k) (by rw [Int.natAbs_natCast]; exact h) hk
theorem p9 {i j : Int} (h : 0 < j) : P3 (.int i) (.int j) = some (.int (i % j)):=by
 show (if (0 : Int) < j then some (PyData.int (i % j)) else none) = _
 rw [if_pos h]
theorem ab9 {i j : Int} (h : 0 < j) (s : G5 j) : T8 (.int i) (.int j) = some (.int (i / j)):=by
 show (if (0 : Int) < j ∧ G5 j then some (PyData.int (i / j)) else none) = _
 rw [if_pos ⟨h,s⟩]
theorem B2 {g : DS} {n : Nat} {ds : List D} {ρ : Rho} {d : D} (h : ap8 n ds = ρ) (e : g ρ = some (.rt d)) : F8 g n ds = some d:=by
 unfold F8
 rw [h,e]; rfl
theorem am5 {j k : Nat} {r s : Rat} (hr : Bd j r) (hs : Bd k s) (l : j + k ≤ 8000) : ah8 [fr r,fr s] = some (fr (r * s)):=by
 refine B2 (ρ:=[‹fr r›,‹fr s›]) rfl ?_
 simp only [aG3,B5,A9,A5,A7,B0,ix0 (v0 _ _),ix1 (v0 _ _),ix0 (v1 _ _ _),ix1 (v1 _ _ _),xbs,xms,P9 (hr.sn (by omega)) (hs.sn (by omega)),P9 (hr.sd (by omega)) (hs.sd (by omega))]
 have:=aN1 (r.num.natAbs * s.num.natAbs) (r.den * s.den) (j + k) (Nat.mul_pos (O4 r) (O4 s)) (aa0 hr.den hs.den) l
 rw [← aI0 hr hs,Int.natCast_mul,Int.natCast_mul,← hr.nat,← hs.nat] at this
 rw [this]; rfl
def aF5 (ns : List Int) (k : Nat) : Int:=if ns.length = 0 then 7 * (k : Int) else ns.getD (k % ns.length) 0 + 6553 * ((k / ns.length : Nat) : Int)
theorem bD8 (ns : List Int) : eqD (.list (ns.map PyData.int)) (.list []) = some (.bool (decide (ns.length = 0))):=by
 have h1 : SeqAt.shaped (.list (ns.map PyData.int)) = true:=by
  have c : ∀ l : List Int,PyData.canLayAll0 (l.map PyData.int) = true:=fun l=>by
   induction l with
   | nil=>rfl
   | cons a r ih=>simp only [xmc,PyData.canLayAll0,PyData.canLay0,ih]; rfl
  have d : ∀ l : List Int,PyData.depthAll (l.map PyData.int) = 0:=fun l=>by
   induction l with
   | nil=>rfl
   | cons a r ih=>simp only [xmc,PyData.depthAll,PyData.depth,ih]; rfl
  unfold SeqAt.shaped
  simp only [PyData.canLay0,c,PyData.depth,d]
  rfl
 unfold eqD
 rw [if_pos ⟨h1,rfl⟩]
 cases ns with
 | nil=>rfl
 | cons a r=>simp [PyData.eqv,PyData.eqvAll]
theorem cm3 (ns : List Int) (k : Nat) (hn : ns.length ≤ 63) (hk : k < 2 ^ 60) : ap6 [.list (ns.map PyData.int),.int k] = some (.int (aF5 ns k)):=by
 refine B2 (ρ:=[‹.list (ns.map PyData.int)›,‹.int k›]) rfl ?_
 have sk : G5 (k : Int):=o8 hk (by decide)
 by_cases h : ns.length = 0
 ·have e : aF5 ns k = 7 * (k : Int):=by unfold aF5; rw [if_pos h]
  simp only [aA8,B4,D3,B5,sIf,C7,P7,x3,A6,dC,C2,E4,B0,A9,as8,G9,dOr,ab2,D9,dIx,r6,E5,N6,U6,r8,D5,B1,qE,qN,Y6,J8,E3,V5,A7,A5,C3,tB2,M9,D0,B6,J6,C6,D2,S7,n8,F7,C9,R6,K1,S6,F0,K0,as6,K7,xg0,xg1,xw0,xw1,xbs,xms,xmc,xmn,xna,xca,Z3,Y5,f9,S2,g9,ai4,ae3,ax8,ax7,ax6,ae5,am2,am1,am0,al9,am4,am3,ab4,aj1,aj0,xnt,xnf,xft,if_true,if_false,ite_true,ite_false,bD8,h,decide_true,P9 (i:=7) (J3 (k:=3) (by decide) (by decide)) sk,e]
 ·have e : aF5 ns k = ns.getD (k % ns.length) 0 + 6553 * ((k / ns.length : Nat) : Int):=by unfold aF5; rw [if_neg h]
  have hl : (List.map PyData.int ns).length = ns.length:=List.length_map ..
  have hp : 0 < ns.length:=Nat.pos_of_ne_zero h
  have m1 : P3 (.int k) (.int ns.length) = some (.int ((k % ns.length : Nat) : Int)):=by rw [p9 (by omega)]; simp
  have m2 : T8 (.int k) (.int ns.length) = some (.int ((k / ns.length : Nat) : Int)):=by rw [ab9 (by omega) (o8 (k:=6) (by omega) (by decide))]; simp
  have m3 : L2.atI (List.map PyData.int ns) ((k % ns.length : Nat) : Int) = some (.int (ns.getD (k % ns.length) 0)):=by
   refine L2.O6 ?_
   have hlt : k % ns.length < ns.length:=Nat.mod_lt _ hp
   rw [List.getElem?_map,List.getElem?_eq_getElem hlt]
   simp [List.getD,hlt]
  have sq : G5 ((k / ns.length : Nat) : Int):=o8 (k:=60) (Nat.lt_of_le_of_lt (Nat.div_le_self _ _) hk) (by decide)
  simp only [aA8,B4,D3,B5,sIf,C7,P7,x3,A6,dC,C2,E4,B0,A9,as8,G9,dOr,ab2,D9,dIx,r6,E5,N6,U6,r8,D5,B1,qE,qN,Y6,J8,E3,V5,A7,A5,C3,tB2,M9,D0,B6,J6,C6,D2,S7,n8,F7,C9,R6,K1,S6,F0,K0,as6,K7,xg0,xg1,xw0,xw1,xbs,xms,xmc,xmn,xna,xca,Z3,Y5,f9,S2,g9,ai4,ae3,ax8,ax7,ax6,ae5,am2,am1,am0,al9,am4,am3,ab4,aj1,aj0,xnt,xnf,xft,if_true,if_false,ite_true,ite_false,bD8,h,decide_false,hl,m1,m2,m3,P9 (i:=6553) (J3 (k:=13) (by decide) (by decide)) sq,e]
def ao3 (ns : List Int) (k : Nat) (m : Int) : Int :=
 let c:=(aF5 ns k % 2147483563 * 69069 + 104723 * ((k : Int) + 1)) % 2147483563
 let c:=(c * c + c / 3) % 2147483399
 (c * c + c / 7) % 2147483647 / 11 % m
theorem aO2 {i : Int} (h0 : 0 ≤ i) (h : i < 4294967296) : G5 i:=J3 (k:=32) (by omega) (by decide)
theorem aw2 (ns : List Int) (k : Nat) (m : Int) (hn : ns.length ≤ 63) (hk : k < 2 ^ 60) (hm : 0 < m) : B3 [.list (ns.map PyData.int),.int k,.int m] = some (.int (ao3 ns k m)):=by
 refine B2 (ρ:=[‹.list (ns.map PyData.int)›,‹.int k›,‹.int m›,none]) rfl ?_
 have c0 : ∀ x : Int,G5 (x % 2147483563):=fun x=>aO2 (by omega) (by omega)
 have c1 : ∀ x : Int,G5 (x % 2147483399):=fun x=>aO2 (by omega) (by omega)
 have sk : G5 ((k : Int) + 1):=J3 (k:=61) (by omega) (by decide)
 have s1 : G5 69069:=J3 (k:=17) (by decide) (by decide)
 have s2 : G5 104723:=J3 (k:=17) (by decide) (by decide)
 have s3 : G5 3:=J3 (k:=2) (by decide) (by decide)
 have s7 : G5 7:=J3 (k:=3) (by decide) (by decide)
 have s11 : G5 11:=J3 (k:=4) (by decide) (by decide)
 simp only [aG7,B4,D3,B5,sIf,C7,P7,x3,A6,dC,C2,E4,B0,A9,as8,G9,dOr,ab2,D9,dIx,r6,E5,N6,U6,r8,D5,B1,qE,qN,Y6,J8,E3,V5,A7,A5,C3,tB2,M9,D0,B6,J6,C6,D2,S7,n8,F7,C9,R6,K1,S6,F0,K0,as6,K7,xg0,xg1,xw0,xw1,xbs,xms,xmc,xmn,xna,xca,Z3,Y5,f9,S2,g9,ai4,ae3,ax8,ax7,ax6,ae5,am2,am1,am0,al9,am4,am3,ab4,aj1,aj0,xnt,xnf,xft,if_true,if_false,ite_true,ite_false,cm3 ns k hn hk,p9 (show (0 : Int) < 2147483563 by decide),p9 (show (0 : Int) < 2147483399 by decide),p9 (show (0 : Int) < 2147483647 by decide),p9 hm,P9 (c0 _) s1,P9 s2 sk,P9 (c0 _) (c0 _),P9 (c1 _) (c1 _),ab9 (show (0 : Int) < 3 by decide) s3,ab9 (show (0 : Int) < 7 by decide) s7,ab9 (show (0 : Int) < 11 by decide) s11]
 rfl
theorem av3 (ns : List Int) (k : Nat) (m : Int) (hm : 0 < m) : 0 ≤ ao3 ns k m ∧ ao3 ns k m < m:=by
 unfold ao3
 exact ⟨Int.emod_nonneg _ (by omega),Int.emod_lt_of_pos _ hm⟩
structure IsSh (k : Nat) (r : Rat) : Prop where
 bd : Bd k r
 le : r ≤ 1
theorem aE2 {a b : Nat} (hb : 0 < b) (h : a ≤ b) : mkRat (a : Int) b ≤ 1:=by
 rw [Rat.le_iff,Rat.num_mkRat,Rat.den_mkRat,if_neg (by omega),if_neg (by omega)]
 have e0 : (1 : Rat).num = 1:=rfl
 have e1 : (1 : Rat).den = 1:=rfl
 rw [e0,e1]
 have : a / b.gcd a ≤ b / b.gcd a:=Nat.div_le_div_right h
 simp
 exact_mod_cast this
theorem ah4 (ns : List Int) (at' : Nat) (hn : ns.length ≤ 63) (hk : at' < 2 ^ 40) : ∃ r,L0 [.list (ns.map PyData.int),.int at'] = some (fr r) ∧ IsSh 4 r:=by
 obtain ⟨u0,u1⟩:=av3 ns at' 12 (by decide)
 obtain ⟨u,hu⟩ : ∃ u : Nat,(1 : Int) + ao3 ns at' 12 = u ∧ 0 < u ∧ u ≤ 12:=⟨(1 + ao3 ns at' 12).toNat,by omega,by omega,by omega⟩
 obtain ⟨t0,t1⟩:=av3 ns (at' + 1) ((u : Int) + 1) (by omega)
 obtain ⟨t,ht⟩ : ∃ t : Nat,ao3 ns (at' + 1) ((u : Int) + 1) = t ∧ t ≤ u:=⟨(ao3 ns (at' + 1) ((u : Int) + 1)).toNat,by omega,by omega⟩
 obtain ⟨p0,p1⟩:=av3 ns (at' + 2) 5 (by decide)
 have hs : IsSh 4 (mkRat (t : Int) u):=⟨Bd.of (by omega) (by omega) (by omega),aE2 (by omega) (by omega)⟩
 have e1:=aw2 ns at' 12 hn (by omega) (by decide)
 have e2:=aw2 ns (at' + 1) ((u : Int) + 1) hn (by omega) (by omega)
 have e3:=aw2 ns (at' + 2) 5 hn (by omega) (by decide)
 have e4:=aN1 t u 4 (by omega) (by omega) (by decide)
 have c1 : ((at' : Int) + 1) = ((at' + 1 : Nat) : Int):=by omega
 have c2 : ((at' : Int) + 2) = ((at' + 2 : Nat) : Int):=by omega
 rw [ht.1] at e2
 have pick : ∀ (j : Int),0 ≤ j → j < 5 → ∃ r,L2.atI [fr (mkRat (t : Int) u),fr (mkRat (t : Int) u),fr (mkRat (t : Int) u),.tuple [.int 0,.int 1],.tuple [.int 1,.int 1]] j = some (fr r) ∧ IsSh 4 r:=fun j h0 h5=>by
  have : j = 0 ∨ j = 1 ∨ j = 2 ∨ j = 3 ∨ j = 4:=by omega
  rcases this with rfl | rfl | rfl | rfl | rfl
  ·exact ⟨_,rfl,hs⟩
  ·exact ⟨_,rfl,hs⟩
  ·exact ⟨_,rfl,hs⟩
  ·exact ⟨0,rfl,Bd.zero.mono (by decide),by decide⟩
  ·exact ⟨1,rfl,Bd.one.mono (by decide),by decide⟩
 obtain ⟨r,hr1,hr2⟩:=pick _ p0 p1
 refine ⟨r,B2 (ρ:=[‹.list (ns.map PyData.int)›,‹.int at'›,none,none]) rfl ?_,hr2⟩
 simp only [aG4,B4,D3,B5,sIf,C7,P7,x3,A6,dC,C2,E4,B0,A9,as8,G9,dOr,ab2,D9,dIx,r6,E5,N6,U6,r8,D5,B1,qE,qN,Y6,J8,E3,V5,A7,A5,C3,tB2,M9,D0,B6,J6,C6,D2,S7,n8,F7,C9,R6,K1,S6,F0,K0,as6,K7,xg0,xg1,xw0,xw1,xbs,xms,xmc,xmn,xna,xca,Z3,Y5,f9,S2,g9,ai4,ae3,ax8,ax7,ax6,ae5,am2,am1,am0,al9,am4,am3,ab4,aj1,aj0,xnt,xnf,xft,if_true,if_false,ite_true,ite_false,e1,hu.1,c1,c2,e2,e3,e4,hr1]
end Sh
namespace Sh
open PySem G L2
def sp (c x y z : Rat) : D:=.tuple [fr c,fr x,fr y,fr z]
structure Spot (k : Nat) (c x y z : Rat) : Prop where
 hc : IsSh k c
 hx : Bd k x
 hy : Bd k y
 hz : Bd k z
 xc : x ≤ c
 yc : y ≤ c
 zc : z ≤ c
theorem IsSh.mono {j k : Nat} {r : Rat} (h : IsSh j r) (l : j ≤ k) : IsSh k r:=⟨h.bd.mono l,h.le⟩
theorem Spot.mono {j k : Nat} {c x y z : Rat} (h : Spot j c x y z) (l : j ≤ k) : Spot k c x y z:=⟨h.hc.mono l,h.hx.mono l,h.hy.mono l,h.hz.mono l,h.xc,h.yc,h.zc⟩
theorem ad9 {c r : Rat} (hc : 0 ≤ c) (hr : r ≤ 1) : c * r ≤ c:=by
 have:=Rat.mul_le_mul_of_nonneg_right hr hc
 grind
theorem cv9 : m9 0 3 = [.int 0,.int 1,.int 2]:=rfl
theorem cm2 (ns : List Int) (k : Nat) (hn : ns.length ≤ 63) (hk : k < 2 ^ 30) : ∃ c x y z,Z8 [.list (ns.map PyData.int),.int k] = some (sp c x y z) ∧ Spot 8 c x y z:=by
 obtain ⟨c,ec,hc⟩:=ah4 ns k hn (by omega)
 obtain ⟨a0,e0,h0⟩:=ah4 ns (k + 3) hn (by omega)
 obtain ⟨a1,e1,h1⟩:=ah4 ns (k + 6) hn (by omega)
 obtain ⟨a2,e2,h2⟩:=ah4 ns (k + 9) hn (by omega)
 refine ⟨c,c * a0,c * a1,c * a2,?_,⟨hc.mono (by decide),hc.bd.mul h0.bd,hc.bd.mul h1.bd,hc.bd.mul h2.bd,ad9 hc.bd.nn h0.le,ad9 hc.bd.nn h1.le,ad9 hc.bd.nn h2.le⟩⟩
 refine B2 (ρ:=[‹.list (ns.map PyData.int)›,‹.int k›,none]) rfl ?_
 have i0 : (k : Int) + 3 + 3 * 0 = ((k + 3 : Nat) : Int):=by omega
 have i1 : (k : Int) + 3 + 3 * 1 = ((k + 6 : Nat) : Int):=by omega
 have i2 : (k : Int) + 3 + 3 * 2 = ((k + 9 : Nat) : Int):=by omega
 have s0 : G5 0:=J3 (k:=2) (by decide) (by decide)
 have s1 : G5 1:=J3 (k:=2) (by decide) (by decide)
 have s2 : G5 2:=J3 (k:=2) (by decide) (by decide)
 have s3 : G5 3:=J3 (k:=2) (by decide) (by decide)
 have m0:=P9 s3 s0
 have m1:=P9 s3 s1
 have m2:=P9 s3 s2
 have r3 : ((-(2 ^ 62) : Int) ≤ 3 ∧ (3 : Int) < 2 ^ 62):=by decide
 have l3 : ([PyData.int 0,.int 1,.int 2] : List D).length ≤ 16777216:=by decide
 have ct : ∀ a b c d : D,T3 (.tuple [a]) (.tuple [b,c,d]) = some (.tuple [a,b,c,d]):=fun a b c d=>rfl
 simp only [aV2,B4,D3,B5,sIf,C7,P7,x3,A6,dC,C2,E4,B0,A9,as8,G9,dOr,ab2,D9,dIx,r6,E5,N6,U6,r8,D5,B1,qE,qN,Y6,J8,E3,V5,A7,A5,C3,tB2,M9,D0,B6,J6,C6,D2,S7,n8,F7,C9,R6,K1,S6,F0,K0,as6,K7,xg0,xg1,xw0,xw1,xbs,xms,xmc,xmn,xna,xca,Z3,Y5,f9,S2,g9,ai4,ae3,ax8,ax7,ax6,ae5,am2,am1,am0,al9,am4,am3,ab4,aj1,aj0,xnt,xnf,xft,if_true,if_false,ite_true,ite_false,ec,r3,and_self,cv9,l3,m0,m1,m2,i0,i1,i2,e0,e1,e2,am5 hc.bd h0.bd (by decide),am5 hc.bd h1.bd (by decide),am5 hc.bd h2.bd (by decide),ct,sp]
theorem cd7 : neD (.list []) (.list []) = some (.bool false):=rfl
theorem bP6 : eqD (.list []) (.list []) = some (.bool true):=rfl
theorem an9 (i : Int) : C8 [.int i] = some (.bool true):=rfl
theorem ae2 (i : Int) : L7 [.int i] = some (.bool true):=rfl
theorem aE8 (r : Rat) : SeqAt.shaped (fr r) = true:=rfl
theorem ct2 (r s : Rat) : eqD (fr r) (fr s) = some (.bool (decide (r = s))):=by
 unfold eqD
 rw [if_pos ⟨aE8 r,aE8 s⟩]
 congr 2
 show ((r.num == s.num) && (((r.den : Int) == (s.den : Int)) && true)) = _
 rw [Bool.eq_iff_iff]
 simp only [Bool.and_true,Bool.and_eq_true,beq_iff_eq,decide_eq_true_eq]
 constructor
 ·intro h; exact Rat.ext h.1 (by exact_mod_cast h.2)
 ·intro h; subst h; exact ⟨rfl,rfl⟩
theorem aQ6 {k : Nat} {r : Rat} (h : Bd k r) : mkRat ((r.num.natAbs : Nat) : Int) r.den = r:=by
 rw [← h.nat]; exact Rat.mkRat_self r
theorem ay4 {k : Nat} {r : Rat} (h : IsSh k r) : r.num ≤ r.den:=by
 have:=(Rat.le_iff r 1).mp h.le
 have e0 : (1 : Rat).num = 1:=rfl
 have e1 : (1 : Rat).den = 1:=rfl
 rw [e0,e1] at this
 omega
theorem aB8 (a b : D) : ((([a,b] : List D).length : Nat) : Int) = 2:=rfl
theorem bL7 (a b c d : D) : ((([a,b,c,d] : List D).length : Nat) : Int) = 4:=rfl
theorem bb2 : ((2 : Int) == 2) = true:=rfl
theorem bb4 : ((4 : Int) == 4) = true:=rfl
theorem Z5 {k : Nat} {r : Rat} (h : IsSh k r) (hk : k ≤ 8000) : E7 [fr r] = some (.bool true):=by
 have n0:=Rat.num_nonneg.mpr h.bd.nn
 have nd:=ay4 h
 have d0 : (0 : Int) < r.den:=by have:=O4 r; omega
 have e:=aN1 r.num.natAbs r.den k (O4 r) h.bd.den hk
 rw [aQ6 h.bd,← h.bd.nat] at e
 have e2:=ct2 r r
 refine B2 (ρ:=[‹fr r›]) rfl ?_
 have e' : Z9 [PyData.int r.num,PyData.int r.den] = some (.tuple [.int r.num,.int r.den]):=e
 have e2' : eqD (.tuple [.int r.num,.int r.den]) (.tuple [.int r.num,.int r.den]) = some (.bool true):=by
  have:=e2
  simp only [decide_true] at this
  exact this
 simp only [O8,fr,B4,D3,B5,sIf,C7,P7,x3,A6,dC,C2,E4,B0,A9,as8,G9,dOr,ab2,D9,dIx,r6,E5,N6,U6,r8,D5,B1,qE,qN,Y6,J8,E3,V5,A7,A5,C3,tB2,M9,D0,B6,J6,C6,D2,S7,n8,F7,C9,R6,K1,S6,F0,K0,as6,K7,xg0,xg1,xw0,xw1,xbs,xms,xmc,xmn,xna,xca,Z3,Y5,f9,S2,g9,ai4,ae3,ax8,ax7,ax6,ae5,am2,am1,am0,al9,am4,am3,ab4,aj1,aj0,xnt,xnf,xft,if_true,if_false,ite_true,ite_false,aB8,bb2,an9,d0,decide_true,n0,nd,e',e2']
theorem ab5 {k : Nat} {r : Rat} (h : IsSh k r) (hk : k ≤ 8000) : G1 [fr r] = some (.bool true):=by
 have n0:=Rat.num_nonneg.mpr h.bd.nn
 have nd:=ay4 h
 have d0 : (0 : Int) < r.den:=by have:=O4 r; omega
 have e:=bG0 r.num.natAbs r.den
 rw [← h.bd.nat,show Nat.gcd r.num.natAbs r.den = 1 from r.reduced] at e
 have e' : L1 [PyData.int r.num,PyData.int r.den] = some (.int 1):=e
 have b1 : ((1 : Int) == 1) = true:=rfl
 refine B2 (ρ:=[‹fr r›,none,none]) rfl ?_
 simp only [S5,fr,B4,D3,B5,sIf,C7,P7,x3,A6,dC,C2,E4,B0,A9,as8,G9,dOr,ab2,D9,dIx,r6,E5,N6,U6,r8,D5,B1,qE,qN,Y6,J8,E3,V5,A7,A5,C3,tB2,M9,D0,B6,J6,C6,D2,S7,n8,F7,C9,R6,K1,S6,F0,K0,as6,K7,xg0,xg1,xw0,xw1,xbs,xms,xmc,xmn,xna,xca,Z3,Y5,f9,S2,g9,ai4,ae3,ax8,ax7,ax6,ae5,am2,am1,am0,al9,am4,am3,ab4,aj1,aj0,xnt,xnf,xft,if_true,if_false,ite_true,ite_false,aB8,bb2,ae2,d0,decide_true,n0,nd,e',b1]
theorem bg6 {j k : Nat} {r s : Rat} (hr : Bd j r) (hs : Bd k s) (hj : j ≤ 8000) (hk : k ≤ 8000) (l : r ≤ s) : (decide (s.num * (r.den : Int) < r.num * (s.den : Int))) = false:=by
 have:=(Rat.le_iff r s).mp l
 exact decide_eq_false (by omega)
theorem cu1 : aU8 [.bool true,.bool true,.bool true,.bool true] = some true:=rfl
end Sh
local macro_rules
  | `(tactic| wp_walk using evA)=>`(tactic| simp only [G.B4,G.D3,G.B5,G.sIf,G.C7,G.P7,G.x3,G.A6,G.dC,G.C2,G.E4,G.B0,G.A9,G.as8,G.G9,G.dOr,G.ab2,G.D9,G.dIx,G.r6,G.E5,G.N6,G.U6,G.r8,G.D5,G.B1,G.qE,G.qN,G.Y6,G.J8,G.E3,G.V5,G.A7,G.A5,G.C3,G.tB2,G.M9,G.D0,G.B6,G.J6,G.C6,G.D2,G.S7,G.n8,G.F7,G.C9,G.R6,G.K1,G.S6,G.F0,G.K0,G.as6,G.K7,G.xg0,G.xg1,G.xw0,G.xw1,G.xbs,G.xms,G.xmc,G.xmn,G.xna,G.xca,Sh.Z3,Sh.Y5,Sh.f9,Sh.S2,Sh.g9,Sh.ai4,Sh.ae3,Sh.ax8,Sh.ax7,Sh.ax6,Sh.ae5,Sh.am2,Sh.am1,Sh.am0,Sh.al9,Sh.am4,Sh.am3,Sh.ab4,Sh.aj1,Sh.aj0,G.xnt,G.xnf,G.xft,if_true,if_false,ite_true,ite_false])
  | `(tactic| wp_walk using evA,$ts,*)=>`(tactic| simp only [G.B4,G.D3,G.B5,G.sIf,G.C7,G.P7,G.x3,G.A6,G.dC,G.C2,G.E4,G.B0,G.A9,G.as8,G.G9,G.dOr,G.ab2,G.D9,G.dIx,G.r6,G.E5,G.N6,G.U6,G.r8,G.D5,G.B1,G.qE,G.qN,G.Y6,G.J8,G.E3,G.V5,G.A7,G.A5,G.C3,G.tB2,G.M9,G.D0,G.B6,G.J6,G.C6,G.D2,G.S7,G.n8,G.F7,G.C9,G.R6,G.K1,G.S6,G.F0,G.K0,G.as6,G.K7,G.xg0,G.xg1,G.xw0,G.xw1,G.xbs,G.xms,G.xmc,G.xmn,G.xna,G.xca,Sh.Z3,Sh.Y5,Sh.f9,Sh.S2,Sh.g9,Sh.ai4,Sh.ae3,Sh.ax8,Sh.ax7,Sh.ax6,Sh.ae5,Sh.am2,Sh.am1,Sh.am0,Sh.al9,Sh.am4,Sh.am3,Sh.ab4,Sh.aj1,Sh.aj0,G.xnt,G.xnf,G.xft,if_true,if_false,ite_true,ite_false,$[$ts:term],*])
local macro_rules
  | `(tactic| wp_walk using evB)=>`(tactic| simp only [G.B4,G.D3,G.B5,G.sIf,G.C7,G.P7,G.x3,G.A6,G.dC,G.C2,G.E4,G.B0,G.A9,G.G9,G.dOr,G.ab2,G.D9,G.dIx,G.E5,G.N6,G.U6,G.r8,G.D5,G.B1,G.qE,G.qN,G.Y6,G.J8,G.E3,G.V5,G.A7,G.A5,G.C3,G.tB2,G.M9,G.D0,G.B6,G.J6,G.C6,G.F7,G.C9,G.R6,G.K1,G.S6,G.F0,G.K7,G.xg0,G.xg1,G.xw0,G.xw1,G.xbs,G.xms,G.xmc,G.xmn,G.xna,G.xca,Sh.Z3,Sh.Y5,Sh.f9,Sh.S2,Sh.g9,Sh.ai4,Sh.ae3,Sh.am2,Sh.am1,Sh.am0,Sh.al9,Sh.am4,Sh.am3,Sh.ab4,Sh.aj1,Sh.aj0,G.xnt,G.xnf,G.xft,if_true,if_false])
  | `(tactic| wp_walk using evB,$ts,*)=>`(tactic| simp only [G.B4,G.D3,G.B5,G.sIf,G.C7,G.P7,G.x3,G.A6,G.dC,G.C2,G.E4,G.B0,G.A9,G.G9,G.dOr,G.ab2,G.D9,G.dIx,G.E5,G.N6,G.U6,G.r8,G.D5,G.B1,G.qE,G.qN,G.Y6,G.J8,G.E3,G.V5,G.A7,G.A5,G.C3,G.tB2,G.M9,G.D0,G.B6,G.J6,G.C6,G.F7,G.C9,G.R6,G.K1,G.S6,G.F0,G.K7,G.xg0,G.xg1,G.xw0,G.xw1,G.xbs,G.xms,G.xmc,G.xmn,G.xna,G.xca,Sh.Z3,Sh.Y5,Sh.f9,Sh.S2,Sh.g9,Sh.ai4,Sh.ae3,Sh.am2,Sh.am1,Sh.am0,Sh.al9,Sh.am4,Sh.am3,Sh.ab4,Sh.aj1,Sh.aj0,G.xnt,G.xnf,G.xft,if_true,if_false,$[$ts:term],*])
local macro_rules
  | `(tactic| wp_walk using evC)=>`(tactic| simp only [G.B4,G.D3,G.B5,G.sIf,G.C7,G.P7,G.x3,G.A6,G.dC,G.C2,G.E4,G.B0,G.A9,G.as8,G.G9,G.dOr,G.ab2,G.D9,G.dIx,G.r6,G.E5,G.N6,G.U6,G.r8,G.D5,G.B1,G.qE,G.qN,G.Y6,G.J8,G.E3,G.V5,G.A7,G.A5,G.C3,G.tB2,G.M9,G.D0,G.B6,G.J6,G.C6,G.D2,G.S7,G.n8,G.F7,G.C9,G.R6,G.K1,G.S6,G.F0,G.K0,G.as6,G.K7,G.xg0,G.xg1,G.xw0,G.xw1,G.xbs,G.xms,G.xmc,G.xmn,G.xna,G.xca,Sh.Z3,Sh.Y5,Sh.f9,Sh.S2,Sh.g9,Sh.ai4,Sh.ae3,Sh.ax8,Sh.ax7,Sh.ax6,Sh.ae5,Sh.am2,Sh.am1,Sh.am0,Sh.al9,Sh.am4,Sh.am3,Sh.ab4,Sh.aj1,Sh.aj0,G.xnt,G.xnf,G.xft,if_true,if_false,ite_true,ite_false,G.as9,G.Y4])
  | `(tactic| wp_walk using evC,$ts,*)=>`(tactic| simp only [G.B4,G.D3,G.B5,G.sIf,G.C7,G.P7,G.x3,G.A6,G.dC,G.C2,G.E4,G.B0,G.A9,G.as8,G.G9,G.dOr,G.ab2,G.D9,G.dIx,G.r6,G.E5,G.N6,G.U6,G.r8,G.D5,G.B1,G.qE,G.qN,G.Y6,G.J8,G.E3,G.V5,G.A7,G.A5,G.C3,G.tB2,G.M9,G.D0,G.B6,G.J6,G.C6,G.D2,G.S7,G.n8,G.F7,G.C9,G.R6,G.K1,G.S6,G.F0,G.K0,G.as6,G.K7,G.xg0,G.xg1,G.xw0,G.xw1,G.xbs,G.xms,G.xmc,G.xmn,G.xna,G.xca,Sh.Z3,Sh.Y5,Sh.f9,Sh.S2,Sh.g9,Sh.ai4,Sh.ae3,Sh.ax8,Sh.ax7,Sh.ax6,Sh.ae5,Sh.am2,Sh.am1,Sh.am0,Sh.al9,Sh.am4,Sh.am3,Sh.ab4,Sh.aj1,Sh.aj0,G.xnt,G.xnf,G.xft,if_true,if_false,ite_true,ite_false,G.as9,G.Y4,$[$ts:term],*])
local macro_rules
  | `(tactic| wp_walk using evD)=>`(tactic| simp only [G.B4,G.D3,G.B5,G.sIf,G.C7,G.P7,G.x3,G.A6,G.dC,G.C2,G.E4,G.B0,G.A9,G.G9,G.dOr,G.ab2,G.D9,G.dIx,G.E5,G.N6,G.U6,G.r8,G.D5,G.B1,G.qE,G.qN,G.Y6,G.J8,G.E3,G.V5,G.A7,G.A5,G.C3,G.tB2,G.M9,G.D0,G.B6,G.J6,G.C6,G.F7,G.C9,G.R6,G.K1,G.S6,G.F0,G.K7,G.xg0,G.xg1,G.xw0,G.xw1,G.xbs,G.xms,G.xmc,G.xmn,G.xna,G.xca,Sh.Z3,Sh.Y5,Sh.f9,Sh.S2,Sh.g9,Sh.ai4,Sh.ae3,Sh.am2,Sh.am1,Sh.am0,Sh.al9,Sh.am4,Sh.am3,Sh.ab4,Sh.aj1,Sh.aj0,G.xnt,G.xnf,G.xft,if_true,if_false,G.as9,G.Y4])
  | `(tactic| wp_walk using evD,$ts,*)=>`(tactic| simp only [G.B4,G.D3,G.B5,G.sIf,G.C7,G.P7,G.x3,G.A6,G.dC,G.C2,G.E4,G.B0,G.A9,G.G9,G.dOr,G.ab2,G.D9,G.dIx,G.E5,G.N6,G.U6,G.r8,G.D5,G.B1,G.qE,G.qN,G.Y6,G.J8,G.E3,G.V5,G.A7,G.A5,G.C3,G.tB2,G.M9,G.D0,G.B6,G.J6,G.C6,G.F7,G.C9,G.R6,G.K1,G.S6,G.F0,G.K7,G.xg0,G.xg1,G.xw0,G.xw1,G.xbs,G.xms,G.xmc,G.xmn,G.xna,G.xca,Sh.Z3,Sh.Y5,Sh.f9,Sh.S2,Sh.g9,Sh.ai4,Sh.ae3,Sh.am2,Sh.am1,Sh.am0,Sh.al9,Sh.am4,Sh.am3,Sh.ab4,Sh.aj1,Sh.aj0,G.xnt,G.xnf,G.xft,if_true,if_false,G.as9,G.Y4,$[$ts:term],*])
namespace Sh
open PySem G L2
theorem O3 {x y : Str} {b : Bool} (hx : PyData.canLay0 (.str x) = true) (hy : PyData.canLay0 (.str y) = true) (e : (x == y) = b) : eqD (.str x) (.str y) = some (.bool b):=by
 unfold eqD
 have s : ∀ z : Str,PyData.canLay0 (.str z) = true → SeqAt.shaped (.str z) = true:=fun z h=>by unfold SeqAt.shaped; rw [h]; rfl
 rw [if_pos ⟨s x hx,s y hy⟩]
 show some (PyData.bool (x == y)) = _
 rw [e]
inductive Man where
 | over | mult | screen | plus | atop | cut
def Man.s : Man → Str
 | .over => "over"
 | .mult => "multiply"
 | .screen => "screen"
 | .plus => "plus"
 | .atop => "atop"
 | .cut => "cut"
end Sh
namespace Sh
open PySem G L2
inductive Rul where
 | turn | grey | round
def Rul.s : Rul → Str
 | .turn => "turn"
 | .grey => "grey"
 | .round => "round"
end Sh
namespace Sh
open PySem G L2
def Gd : Nat → D → Prop
 | _,.none=>True
 | _,.bool _=>True
 | _,.int i=>i.natAbs < 2 ^ 40
 | _,.str x=>PyData.strOk x = true
 | n + 1,.tuple xs=>xs.length ≤ 64 ∧ ∀ x ∈ xs,Gd n x
 | n + 1,.list xs=>xs.length ≤ 64 ∧ ∀ x ∈ xs,Gd n x
 | _,_=>False
theorem aM4 {n : Nat} (h : ∀ d,Gd n d → PyData.canLay0 d = true ∧ PyData.depth d ≤ n) : ∀ xs : List D,(∀ x ∈ xs,Gd n x) → PyData.canLayAll0 xs = true ∧ PyData.depthAll xs ≤ n
 | [],_=>⟨rfl,Nat.zero_le _⟩
 | x :: xs,g=>by
  have a:=h x (g x (List.mem_cons_self ..))
  have b:=aM4 h xs fun y hy=>g y (List.mem_cons_of_mem _ hy)
  refine ⟨?_,?_⟩
  ·show (PyData.canLay0 x && PyData.canLayAll0 xs) = true
   rw [a.1,b.1]; rfl
  ·show max (PyData.depth x) (PyData.depthAll xs) ≤ n
   omega
theorem Gd.lay : ∀ (n : Nat) (d : D),Gd n d → PyData.canLay0 d = true ∧ PyData.depth d ≤ n:=by
 intro n
 induction n with
 | zero=>intro d g; cases d <;> first | exact ⟨rfl,Nat.zero_le _⟩ | exact ⟨g,Nat.zero_le _⟩ | exact g.elim
 | succ n ih =>
  intro d g
  cases d with
  | tuple xs=>have:=aM4 ih xs g.2; exact ⟨this.1,Nat.succ_le_succ this.2⟩
  | list xs=>have:=aM4 ih xs g.2; exact ⟨this.1,Nat.succ_le_succ this.2⟩
  | none=>exact ⟨rfl,Nat.zero_le _⟩
  | bool b=>exact ⟨rfl,Nat.zero_le _⟩
  | int i=>exact ⟨rfl,Nat.zero_le _⟩
  | str x=>exact ⟨g,Nat.zero_le _⟩
  | dict _=>exact g.elim
theorem Gd.shaped {n : Nat} {d : D} (g : Gd n d) (hn : n ≤ 64) : SeqAt.shaped d = true:=by
 have:=Gd.lay n d g
 unfold SeqAt.shaped
 rw [this.1,Bool.true_and]
 exact decide_eq_true (by omega)
theorem av1 {n : Nat} {x : D} {xs : List D} (g : ∀ y ∈ x :: xs,Gd n y) (hl : (x :: xs).length ≤ 64) (hn : n ≤ 60) : neD (.list (x :: xs)) (.list []) = some (.bool true):=by
 have : Gd (n + 1) (.list (x :: xs)):=⟨hl,g⟩
 unfold neD
 rw [if_pos ⟨this.shaped (by omega),rfl⟩]; rfl
theorem bG6 {a b c : D} {r : List D} : ((((a :: b :: c :: r).length : Nat) : Int) == 2) = false:=by
 rw [beq_eq_false_iff_ne]
 simp only [List.length_cons]; omega
theorem bj7 (a b : Int) (ha : a.natAbs < 2 ^ 40) (hb : b.natAbs < 2 ^ 40) : ∃ c,G1 [.tuple [.int a,.int b]] = some (.bool c) ∧ E7 [.tuple [.int a,.int b]] = some (.bool c) ∧ (c = true → ∃ r,.tuple [.int a,.int b] = fr r ∧ IsSh 40 r):=by
 have b2 : ((2 : Int) == 2) = true:=rfl
 by_cases h1 : 0 < b
 ·by_cases h2 : 0 ≤ a
  ·by_cases h3 : a ≤ b
   ·obtain ⟨p,rfl⟩:=Int.eq_ofNat_of_zero_le h2
    obtain ⟨q,rfl⟩:=Int.eq_ofNat_of_zero_le (Int.le_of_lt h1)
    have e1:=bG0 p q
    have q0 : 0 < q:=by omega
    have e2:=aN1 p q 40 q0 (by omega) (by decide)
    rw [an6 p q q0] at e2
    have g0 : 0 < Nat.gcd p q:=Nat.gcd_pos_of_pos_right _ q0
    have eqq : eqD (.tuple [.int ((p / Nat.gcd p q : Nat) : Int),.int ((q / Nat.gcd p q : Nat) : Int)]) (.tuple [.int p,.int q]) = some (.bool (decide (Nat.gcd p q = 1))):=by
     unfold eqD
     rw [if_pos ⟨rfl,rfl⟩]
     congr 2
     show (((((p / Nat.gcd p q : Nat) : Int)) == (p : Int)) && ((((q / Nat.gcd p q : Nat) : Int) == (q : Int)) && true)) = _
     rw [Bool.eq_iff_iff]
     simp only [Bool.and_true,Bool.and_eq_true,beq_iff_eq,decide_eq_true_eq]
     constructor
     ·intro h
      have h4 : q / Nat.gcd p q = q:=by exact_mod_cast h.2
      rcases Nat.lt_or_ge 1 (Nat.gcd p q) with h5 | h5
      ·have:=Nat.div_lt_self q0 h5; omega
      ·omega
     ·intro h; rw [h,Nat.div_one,Nat.div_one]; exact ⟨rfl,rfl⟩
    have c1 : (((Nat.gcd p q : Nat) : Int) == 1) = decide (Nat.gcd p q = 1):=by
     rw [Bool.eq_iff_iff]; simp only [beq_iff_eq,decide_eq_true_eq]; omega
    refine ⟨decide (Nat.gcd p q = 1),?_,?_,fun h=>?_⟩
    ·refine B2 (ρ:=[‹.tuple [.int p,.int q]›,none,none]) rfl ?_
     wp_walk using evA,S5,aB8,b2,ae2,h1,h2,h3,decide_true,e1,c1
    ·refine B2 (ρ:=[‹.tuple [.int p,.int q]›]) rfl ?_
     wp_walk using evA,O8,aB8,b2,an9,h1,h2,h3,decide_true,e2,eqq
    ·have g1:=of_decide_eq_true h
     refine ⟨mkRat p q,?_,⟨Bd.of q0 (by omega) (by omega),aE2 q0 (by omega)⟩⟩
     rw [an6 p q q0,g1,Nat.div_one,Nat.div_one]
   ·refine ⟨false,?_,?_,fun h=>by cases h⟩
    ·refine B2 (ρ:=[‹.tuple [.int a,.int b]›,none,none]) rfl ?_
     wp_walk using evA,S5,aB8,b2,ae2,h1,h2,h3,decide_true,decide_false
    ·refine B2 (ρ:=[‹.tuple [.int a,.int b]›]) rfl ?_
     wp_walk using evA,O8,aB8,b2,an9,h1,h2,h3,decide_true,decide_false
  ·refine ⟨false,?_,?_,fun h=>by cases h⟩
   ·refine B2 (ρ:=[‹.tuple [.int a,.int b]›,none,none]) rfl ?_
    wp_walk using evA,S5,aB8,b2,ae2,h1,h2,decide_true,decide_false
   ·refine B2 (ρ:=[‹.tuple [.int a,.int b]›]) rfl ?_
    wp_walk using evA,O8,aB8,b2,an9,h1,h2,decide_true,decide_false
 ·refine ⟨false,?_,?_,fun h=>by cases h⟩
  ·refine B2 (ρ:=[‹.tuple [.int a,.int b]›,none,none]) rfl ?_
   wp_walk using evA,S5,aB8,b2,ae2,h1,decide_true,decide_false
  ·refine B2 (ρ:=[‹.tuple [.int a,.int b]›]) rfl ?_
   wp_walk using evA,O8,aB8,b2,an9,h1,decide_true,decide_false
theorem aw6 (a b c : D) (r : List D) : G1 [.tuple (a :: b :: c :: r)] = some (.bool false) ∧ E7 [.tuple (a :: b :: c :: r)] = some (.bool false):=by
 have h:=@bG6 a b c r
 constructor
 ·refine B2 (ρ:=[‹.tuple (a :: b :: c :: r)›,none,none]) rfl ?_
  wp_walk using evA,S5,h
 ·refine B2 (ρ:=[‹.tuple (a :: b :: c :: r)›]) rfl ?_
  wp_walk using evA,O8,h
theorem Y2 {n : Nat} {d : D} (g : Gd n d) : ∃ c,G1 [d] = some (.bool c) ∧ E7 [d] = some (.bool c) ∧ (c = true → ∃ r,d = fr r ∧ IsSh 40 r):=by
 have no : ∀ {d : D},G1 [d] = some (.bool false) → E7 [d] = some (.bool false) → ∃ c,G1 [d] = some (.bool c) ∧ E7 [d] = some (.bool c) ∧ (c = true → ∃ r,d = fr r ∧ IsSh 40 r):=fun h1 h2=>⟨false,h1,h2,fun h=>by cases h⟩
 cases d with
 | none=>exact no rfl rfl
 | bool b=>exact no rfl rfl
 | int i=>exact no rfl rfl
 | str x=>exact no rfl rfl
 | list xs=>exact no rfl rfl
 | dict _=>cases n <;> exact g.elim
 | tuple xs =>
  cases n with
  | zero=>exact g.elim
  | succ n =>
   match xs,g with
   | [],_=>exact no rfl rfl
   | [a],_=>exact no rfl rfl
   | a :: b :: c :: r,_=>exact no (aw6 a b c r).1 (aw6 a b c r).2
   | [a,b],g =>
    have ga:=g.2 a (by simp)
    have gb:=g.2 b (by simp)
    cases a <;> cases b <;> first
     | exact bj7 _ _ (by cases n <;> exact ga) (by cases n <;> exact gb)
     | exact no rfl rfl
     | (exfalso; cases n <;> exact ga.elim)
     | (exfalso; cases n <;> exact gb.elim)
--main
theorem X0 {n : Nat} {x : D} {xs : List D} (g : ∀ y ∈ x :: xs,Gd n y) (hl : (x :: xs).length ≤ 64) (hn : n ≤ 60) : eqD (.list (x :: xs)) (.list []) = some (.bool false):=by
 have : Gd (n + 1) (.list (x :: xs)):=⟨hl,g⟩
 unfold eqD
 rw [if_pos ⟨this.shaped (by omega),rfl⟩]; rfl
theorem bC9 {k : Nat} {r : Rat} (h : Bd k r) (hk : k ≤ 40) (n : Nat) : Gd (n + 1) (fr r):=by
 have h:=h.mono hk
 refine ⟨by show 2 ≤ 64; decide,?_⟩
 intro x hx
 simp only [List.mem_cons,List.not_mem_nil,or_false] at hx
 rcases hx with rfl | rfl
 ·cases n <;> exact h.num
 ·have : ((r.den : Int)).natAbs < 2 ^ 40:=by rw [Int.natAbs_natCast]; exact h.den
  cases n <;> exact this
theorem aZ3 {r s : Rat} (l : ¬ r ≤ s) : (decide (s.num * (r.den : Int) < r.num * (s.den : Int))) = true:=by
 have:=mt (Rat.le_iff r s).mpr l
 exact decide_eq_true (by omega)
theorem cl8 (a b c : Bool) : aU8 [.bool a,.bool b,.bool c] = some (a && (b && (c && true))):=rfl
theorem cl7 (a b c d : Bool) : aU8 [.bool a,.bool b,.bool c,.bool d] = some (a && (b && (c && (d && true)))):=rfl
theorem bG9 {c x y z : Rat} (hc : IsSh 40 c) (hx : IsSh 40 x) (hy : IsSh 40 y) (hz : IsSh 40 z) : ∃ t,P1 [sp c x y z] = some (.bool t) ∧ M3 [sp c x y z] = some (.bool t):=by
 have hk : 40 ≤ 8000:=by decide
 have f4 : ∀ a b c d : D,([a,b,c,d] : List D).length ≤ 16777216:=fun a b c d=>by show 4 ≤ 16777216; decide
 have f3 : ∀ a b c : D,([a,b,c] : List D).length ≤ 16777216:=fun a b c=>by show 3 ≤ 16777216; decide
 refine ⟨decide (x ≤ c) && (decide (y ≤ c) && (decide (z ≤ c) && true)),?_,?_⟩
 ·refine B2 (ρ:=[‹sp c x y z›]) rfl ?_
  wp_walk using evA,ah2,sp,bL7,bb4,f4,f3,ab5 hc hk,ab5 hx hk,ab5 hy hk,ab5 hz hk,cu1,ae8 hx.bd hc.bd (by decide),ae8 hy.bd hc.bd (by decide),ae8 hz.bd hc.bd (by decide),cl8
 ·refine B2 (ρ:=[‹sp c x y z›]) rfl ?_
  have q : ∀ {r : Rat},(fr r) = .tuple [.int r.num,.int r.den]:=rfl
  have gx:=bC9 hx.bd (by decide) 1
  have gy:=bC9 hy.bd (by decide) 1
  have gz:=bC9 hz.bd (by decide) 1
  have e1:=X0 (n:=2) (x:=fr x) (xs:=[]) (by simp [gx]) (by simp) (by decide)
  have e2:=X0 (n:=2) (x:=fr y) (xs:=[]) (by simp [gy]) (by simp) (by decide)
  have e3:=X0 (n:=2) (x:=fr z) (xs:=[]) (by simp [gz]) (by simp) (by decide)
  have e4:=X0 (n:=2) (x:=fr x) (xs:=[fr y]) (by simp [gx,gy]) (by simp) (by decide)
  have e5:=X0 (n:=2) (x:=fr x) (xs:=[fr z]) (by simp [gx,gz]) (by simp) (by decide)
  have e6:=X0 (n:=2) (x:=fr y) (xs:=[fr z]) (by simp [gy,gz]) (by simp) (by decide)
  have e7:=X0 (n:=2) (x:=fr x) (xs:=[fr y,fr z]) (by simp [gx,gy,gz]) (by simp) (by decide)
  have S:=Z5 hc hk
  wp_walk using evA,k6,sp,bL7,bb4,f4,Z5 hc hk,Z5 hx hk,Z5 hy hk,Z5 hz hk,cd7
  simp only [q] at e1 e2 e3 e4 e5 e6 e7
  by_cases h1 : x ≤ c <;> by_cases h2 : y ≤ c <;> by_cases h3 : z ≤ c <;>
  wp_walk using evA,q,P9 (hc.bd.sn hk) (hc.bd.sd hk),P9 (hx.bd.sn hk) (hc.bd.sd hk),P9 (hy.bd.sn hk) (hc.bd.sd hk),P9 (hz.bd.sn hk) (hc.bd.sd hk),P9 (hc.bd.sn hk) (hx.bd.sd hk),P9 (hc.bd.sn hk) (hy.bd.sd hk),P9 (hc.bd.sn hk) (hz.bd.sd hk),h1,h2,h3,decide_true,decide_false,Bool.and_true,Bool.and_false,Bool.true_and,Bool.false_and,
   bg6 hc.bd hc.bd hk hk (Rat.le_refl),(bg6 hx.bd hc.bd hk hk : x ≤ c → _),(bg6 hy.bd hc.bd hk hk : y ≤ c → _),(bg6 hz.bd hc.bd hk hk : z ≤ c → _),(aZ3 : ¬ x ≤ c → _),(aZ3 : ¬ y ≤ c → _),(aZ3 : ¬ z ≤ c → _),not_false_eq_true,bP6,e1,e2,e3,e4,e5,e6,e7
theorem co6 {n : Nat} {a b c e : D} (hn : n ≤ 60) (ga : Gd n a) (gb : Gd n b) (gc : Gd n c) (ge : Gd n e) : ∃ t,P1 [.tuple [a,b,c,e]] = some (.bool t) ∧ M3 [.tuple [a,b,c,e]] = some (.bool t):=by
  obtain ⟨c1,p1,l1,r1⟩:=Y2 ga
  obtain ⟨c2,p2,l2,r2⟩:=Y2 gb
  obtain ⟨c3,p3,l3,r3⟩:=Y2 gc
  obtain ⟨c4,p4,l4,r4⟩:=Y2 ge
  have f4 : ∀ a b c d : D,([a,b,c,d] : List D).length ≤ 16777216:=fun a b c d=>by show 4 ≤ 16777216; decide
  by_cases H : (c1 && (c2 && (c3 && (c4 && true)))) = true
  · simp only [Bool.and_eq_true,Bool.and_true] at H
    obtain ⟨h1,h2,h3,h4⟩:=H
    obtain ⟨ra,rfl,ia⟩:=r1 h1
    obtain ⟨rb,rfl,ib⟩:=r2 h2
    obtain ⟨rc,rfl,ic⟩:=r3 h3
    obtain ⟨re,rfl,ie⟩:=r4 h4
    exact bG9 ia ib ic ie
  · have H : (c1 && (c2 && (c3 && (c4 && true)))) = false:=by simpa using H
    refine ⟨false,?_,?_⟩
    · refine B2 (ρ:=[‹.tuple [a,b,c,e]›]) rfl ?_
      wp_walk using evA,ah2,bL7,bb4,f4,p1,p2,p3,p4,cl7,H
    · refine B2 (ρ:=[‹.tuple [a,b,c,e]›]) rfl ?_
      clear p1 p2 p3 p4 r1 r2 r3 r4
      cases c1 <;> cases c2 <;> cases c3 <;> cases c4 <;> first
        | (exfalso; exact absurd H (by decide))
        | (wp_walk using evA,k6,bL7,bb4,f4,l1,l2,l3,l4
           rw [av1 (n:=n) (by simp [ga,gb,gc,ge]) (by simp) hn]
           rfl)
theorem bL6 {a b c d e : D} {r : List D} : ((((a :: b :: c :: d :: e :: r).length : Nat) : Int) == 4) = false:=by
 rw [beq_eq_false_iff_ne]
 simp only [List.length_cons]; omega
theorem aD6 (a b c d e : D) (r : List D) : P1 [.tuple (a :: b :: c :: d :: e :: r)] = some (.bool false) ∧ M3 [.tuple (a :: b :: c :: d :: e :: r)] = some (.bool false):=by
 have h:=@bL6 a b c d e r
 constructor
 ·refine B2 (ρ:=[‹.tuple (a :: b :: c :: d :: e :: r)›]) rfl ?_
  wp_walk using evA,ah2,h
 ·refine B2 (ρ:=[‹.tuple (a :: b :: c :: d :: e :: r)›]) rfl ?_
  wp_walk using evA,k6,h
theorem bu5 {n : Nat} {d : D} (g : Gd n d) (hn : n ≤ 60) : ∃ t,P1 [d] = some (.bool t) ∧ M3 [d] = some (.bool t):=by
 cases d with
 | none=>exact ⟨false,rfl,rfl⟩
 | bool b=>exact ⟨false,rfl,rfl⟩
 | int i=>exact ⟨false,rfl,rfl⟩
 | str x=>exact ⟨false,rfl,rfl⟩
 | list xs=>exact ⟨false,rfl,rfl⟩
 | dict _=>cases n <;> exact g.elim
 | tuple xs =>
  cases n with
  | zero=>exact g.elim
  | succ n =>
   match xs,g with
   | [],_=>exact ⟨false,rfl,rfl⟩
   | [a],_=>exact ⟨false,rfl,rfl⟩
   | [a,b],_=>exact ⟨false,rfl,rfl⟩
   | [a,b,c],_=>exact ⟨false,rfl,rfl⟩
   | a :: b :: c :: d :: e :: r,_=>exact ⟨false,(aD6 a b c d e r).1,(aD6 a b c d e r).2⟩
   | [a,b,c,e],g=>exact co6 (by omega) (g.2 a (by simp)) (g.2 b (by simp)) (g.2 c (by simp)) (g.2 e (by simp))
--main
theorem aA3 (l : List D) (n m : Int) (hm : m = (l.length : Nat)) (h0 : 0 < l.length) : ∃ d ∈ l,atI l (n % m) = some d:=by
 subst hm
 have a:=Int.emod_nonneg n (show ((l.length : Nat) : Int) ≠ 0 by omega)
 have b:=Int.emod_lt_of_pos n (show 0 < ((l.length : Nat) : Int) by omega)
 obtain ⟨j,e⟩:=Int.eq_ofNat_of_zero_le a
 rw [e] at b ⊢
 have hj : j < l.length:=by omega
 exact ⟨l[j],List.getElem_mem hj,O6 (List.getElem?_eq_getElem hj)⟩
def bk9 : List D:=[.int (-1),.int 0,.int 1,.int 2,.int 10,.bool true,.bool false,.none,.str "", .str "a", .str "over", .str "Ab", .tuple [],.list [],.tuple [.int 0,.int 1],.tuple [.int 1,.int 1],.tuple [.int 1,.int 2],.tuple [.int 2,.int 2],.tuple [.int 2,.int 1],
 .tuple [.str "a"],.list [.int 0,.int 1],.str "abcdefg", .tuple [.int (-1),.int 1],.tuple [.int 1,.int 0],.tuple [.tuple [.int 0,.int 1],.tuple [.int 0,.int 1],.tuple [.int 0,.int 1],.tuple [.int 0,.int 1]],.tuple [.str "tone", .str "zz", .str "grey", .tuple [.int 1,.int 1],.bool true]]
theorem bK2 (n : Int) : bh8 [‹.int n›,none] = (atI bk9 (n % 26)).map Fl.rt:=rfl
theorem sml (i : Int) (h : i.natAbs < 2 ^ 40) : G5 i:=J3 (k:=40) h (by decide)
theorem ao9 {xs : List D} {l h : Option Int} {x : D} (hx : x ∈ P5 xs l h) : x ∈ xs:=List.mem_of_mem_drop (List.mem_of_mem_take hx)
theorem ap0 (xs : List D) (l h : Option Int) : (P5 xs l h).length ≤ xs.length:=by
 unfold P5
 rw [List.length_take,List.length_drop]
 omega
theorem cat_tup {xs ys : List D} (h : xs.length + ys.length ≤ 16777216) : T3 (.tuple xs) (.tuple ys) = some (.tuple (xs ++ ys)):=if_pos h
theorem cn3 (xs : List D) (h0 : xs ≠ []) (hl : xs.length ≤ 16) : W9 (.tuple xs) (.int 2) = some (.tuple (xs ++ xs)):=by
 have e : (List.replicate 2 xs).flatten = xs ++ xs:=by simp [List.replicate]
 have : xs.isEmpty = false:=by cases xs with
  | nil=>exact absurd rfl h0
  | cons _ _=>rfl
 show (if xs.isEmpty = false ∧ (2 : Int) ≤ 2 ∧ (2 : Int) < 1000000 ∧ xs.length * (2 : Int).toNat ≤ 16777216 then some (PyData.tuple (List.replicate (2 : Int).toNat xs).flatten) else none) = _
 rw [if_pos ⟨this,by decide,by decide,by show xs.length * 2 ≤ 16777216; omega⟩]
 exact congrArg (fun z=>some (PyData.tuple z)) e
end Sh
namespace Sh
open PySem G L2
theorem z3 (a b c d e f : D) : (List.zip [a,b,c] [d,e,f]).map (fun (x,y)=>PyData.tuple [x,y]) = [.tuple [a,d],.tuple [b,e],.tuple [c,f]]:=rfl
end Sh
namespace Sh
open PySem G L2
structure Q4 where
 c : Rat
 x : Rat
 y : Rat
 z : Rat
def Q4.d (q : Q4) : D:=sp q.c q.x q.y q.z
def Q4.ok (k : Nat) (q : Q4) : Prop:=Spot k q.c q.x q.y q.z
def q0 : Q4:=⟨0,0,0,0⟩
theorem Q4.ok.mono {j k : Nat} {q : Q4} (h : q.ok j) (l : j ≤ k) : q.ok k:=Spot.mono h l
def Ly (n : Nat) (d : D) : Prop:=PyData.canLay0 d = true ∧ PyData.depth d ≤ n
theorem Ly.shaped {n : Nat} {d : D} (g : Ly n d) (hn : n ≤ 64) : SeqAt.shaped d = true:=by
 unfold SeqAt.shaped
 rw [g.1,Bool.true_and]
 exact decide_eq_true (by have:=g.2; omega)
theorem Gd.ly {n : Nat} {d : D} (g : Gd n d) : Ly n d:=Gd.lay n d g
def shD (w h : Nat) (l : List Q4) : D:=.tuple [.int w,.int h,.tuple (l.map Q4.d)]
structure ShOk (k : Nat) (w h : Nat) (l : List Q4) : Prop where
 w1 : 1 ≤ w
 w8 : w ≤ 8
 h1 : 1 ≤ h
 h8 : h ≤ 8
 len : l.length = w * h
 ok : ∀ q ∈ l,q.ok k
theorem bE8 {α : Type} {e : DE} {r : Rho} {h f : α → D} : ∀ (l : List α) (x : Option B),(∀ a ∈ l,e (‹h a› :: r) = some (f a)) → S7 (C9 0) F7 e (l.map h) (x :: r) = some (l.map f)
 | [],_,_=>rfl
 | a :: l,x,H=>by
  simp only [xmc,S7,C9,xw0,xbs,F7,if_true,H a (List.mem_cons_self ..),bE8 l _ (fun b hb=>H b (List.mem_cons_of_mem _ hb)),xms]
theorem bE7 {α : Type} {c : Rho → Option Bool} {e : DE} {r : Rho} {h f : α → D} {p : α → Bool} : ∀ (l : List α) (x : Option B),(∀ a ∈ l,c (‹h a› :: r) = some (p a)) → (∀ a ∈ l,e (‹h a› :: r) = some (f a)) → S7 (C9 0) c e (l.map h) (x :: r) = some ((l.filter p).map f)
 | [],_,_,_=>rfl
 | a :: l,x,C,H=>by
  have ih:=bE7 l (‹h a›) (fun b hb=>C b (List.mem_cons_of_mem _ hb)) (fun b hb=>H b (List.mem_cons_of_mem _ hb))
  cases q : p a with
  | true =>
   simp only [xmc,S7,C9,xw0,xbs,C a (List.mem_cons_self ..),q,if_true,H a (List.mem_cons_self ..),ih,xms,List.filter_cons_of_pos q]
  | false =>
   have q' : ¬ p a = true:=by rw [q]; exact Bool.false_ne_true
   simp only [xmc,S7,C9,xw0,xbs,C a (List.mem_cons_self ..),q,xft,if_false,ih,List.filter_cons_of_neg q']
theorem y9 {α : Type} {caps : List Nat} {src : Rho → Option (List D)} {e : DE} {ρ r : Rho} {l : List α} {h f : α → D} (hr : n8 1 caps ρ = none :: r) (hs : src ρ = some (l.map h)) (hl : l.length ≤ 1000) (H : ∀ a ∈ l,e (‹h a› :: r) = some (f a)) :
  D2 1 caps src (C9 0) F7 e ρ = some (l.map f):=by
 unfold D2
 rw [hs,xbs,if_pos (by rw [List.length_map]; omega),hr,bE8 l _ H]
theorem W8 {α : Type} {caps : List Nat} {src : Rho → Option (List D)} {c : Rho → Option Bool} {e : DE} {ρ r : Rho} {l : List α} {h f : α → D} {p : α → Bool} (hr : n8 1 caps ρ = none :: r) (hs : src ρ = some (l.map h)) (hl : l.length ≤ 1000) (C : ∀ a ∈ l,c (‹h a› :: r) = some (p a)) (H : ∀ a ∈ l,e (‹h a› :: r) = some (f a)) :
  D2 1 caps src (C9 0) c e ρ = some ((l.filter p).map f):=by
 unfold D2
 rw [hs,xbs,if_pos (by rw [List.length_map]; omega),hr,bE7 l _ C H]
theorem y6 {f : DE} {ρ : Rho} {n : Nat} (h : f ρ = some (.int n)) (hn : n ≤ 1000) : K0 f ρ = some ((List.range n).map fun k : Nat=>PyData.int k):=by
 unfold K0
 rw [h,xbs]
 show (if -(2 ^ 62) ≤ (n : Int) ∧ (n : Int) < 2 ^ 62 then some (m9 0 n) else none) = _
 rw [if_pos ⟨by omega,by omega⟩]
 unfold m9
 congr 1
 have e : ((n : Int) - 0).toNat = n:=by omega
 rw [e]
 apply List.map_congr_left
 intro k _
 congr 1
 omega
theorem ce2 {i j : Int} (h1 : G5 i) (h2 : G5 j) : G3 (.int i) (.int j) = some (.int (i * j)):=P9 h1 h2
theorem R3 {i j : Nat} (h1 : i ≤ 1000) (h2 : j ≤ 1000) : G3 (.int i) (.int j) = some (.int ((i * j : Nat) : Int)):=by
 rw [ce2 (o8 (k:=10) (by omega) (by decide)) (o8 (k:=10) (by omega) (by decide)),Int.natCast_mul]
theorem aZ0 {n : Nat} {i : Int} (h0 : 0 ≤ i) (h1 : i < n) : ixN n i = some i.toNat:=by unfold ixN; rw [if_pos h0,if_pos h1]
end Sh
namespace Sh
open PySem G L2
abbrev scr (ns : List Int) : D:=.list (ns.map PyData.int)
theorem V6 (ns : List Int) (k m : Nat) (hn : ns.length ≤ 63) (hk : k < 2 ^ 60) (hm : 0 < m) : ∃ n : Nat,B3 [scr ns,.int k,.int m] = some (.int n) ∧ n < m:=by
 have a:=aw2 ns k m hn hk (by omega)
 have b:=av3 ns k m (by omega)
 refine ⟨(ao3 ns k m).toNat,?_,by omega⟩
 rw [a]
 congr 2
 omega
theorem av6 {h : D → D → Option D} {f g : DE} {ρ : Rho} {x y : D} (h1 : f ρ = some x) (h2 : g ρ = some y) : B0 h f g ρ = h x y:=by unfold B0; rw [h1,xbs,h2,xbs]
theorem p6 {α : Type} (a : α) : ∀ n : Nat,(List.replicate n [a]).flatten = List.replicate n a
 | 0=>rfl
 | n + 1=>by rw [List.replicate_succ,List.flatten_cons,p6 a n]; rfl
theorem by5 {xs : List D} {n : Nat} (hn : n ≤ 1000) (hx : xs.length ≤ 1000) : G3 (.list xs) (.int n) = some (.list (List.replicate n xs).flatten):=by
 show (if 0 ≤ (n : Int) ∧ (n : Int) < 1000000 ∧ xs.length * ((n : Int)).toNat ≤ 16777216 then some (PyData.list (List.replicate ((n : Int)).toNat xs).flatten) else none) = _
 rw [Int.toNat_natCast,if_pos ⟨by omega,by omega,Nat.le_trans (Nat.mul_le_mul hx hn) (by decide)⟩]
theorem cx4 (a : D) (r : List D) : P5 (a :: r) none (some 1) = [a]:=by
 unfold P5
 have h1 : HT.sIx (a :: r).length 0 none = 0:=by simp [HT.sIx]
 have h2 : HT.sIx (a :: r).length (a :: r).length (some 1) = 1:=by simp only [HT.sIx,List.length_cons]; first | omega | (simp; omega) | simp
 rw [h1,h2]; rfl
theorem bh9 (ns : List Int) (k : Nat) (hn : ns.length ≤ 63) (hk : k < 2 ^ 30) : ∃ q : Q4,Z8 [scr ns,.int k] = some q.d ∧ q.ok 8:=by
 obtain ⟨c,x,y,z,e,S⟩:=cm2 ns k hn hk
 exact ⟨⟨c,x,y,z⟩,e,S⟩
theorem bu4 (ns : List Int) (at' : Nat) (hn : ns.length ≤ 63) (ha : at' < 2 ^ 20) : ∃ f : Nat → Q4,∀ k,k < 1000 → Z8 [scr ns,.int ((at' + 12 * k : Nat) : Int)] = some (f k).d ∧ (f k).ok 8:=by
 refine ⟨fun k=>if h : k < 1000 then Classical.choose (bh9 ns (at' + 12 * k) hn (by omega)) else q0,fun k hk=>?_⟩
 simp only [dif_pos hk]
 exact Classical.choose_spec (bh9 ns (at' + 12 * k) hn (by omega))
theorem aJ9 (ns : List Int) (at' w h : Nat) (hn : ns.length ≤ 63) (ha : at' < 2 ^ 20) (w1 : 1 ≤ w) (w8 : w ≤ 8) (h1 : 1 ≤ h) (h8 : h ≤ 8) : ∃ l : List Q4,u4 [scr ns,.int at',.int w,.int h] = some (shD w h l) ∧ ShOk 8 w h l:=by
 obtain ⟨f,hf⟩:=bu4 ns at' hn ha
 have wh : w * h ≤ 64:=Nat.mul_le_mul w8 h8
 have wh1 : 1 ≤ w * h:=Nat.mul_le_mul w1 h1
 obtain ⟨t,et,ht⟩:=V6 ns (at' + 7) 3 hn (by omega) (by decide)
 have et' : B3 [scr ns,.int ((at' : Int) + 7),.int 3] = some (.int t):=by rw [← et]; simp
 have c : D2 1 [0,1] (K0 (B0 G3 (A6 2) (A6 3))) (C9 0) F7 (A9 Z8 (A5 (A6 1) (A5 (B0 C5 (A6 2) (B0 G3 (dC (.int 12)) (A6 0))) A7))) [‹scr ns›,‹.int at'›,‹.int w›,‹.int h›,none] = some ((List.range (w * h)).map fun k=>(f k).d):=by
  refine y9 (l:=List.range (w * h)) (h:=fun k : Nat=>PyData.int k) (r:=[‹scr ns›,‹.int at'›]) rfl (y6 ?_ (by omega)) (by rw [List.length_range]; omega) ?_
  ·exact R3 (by omega) (by omega)
  ·intro k hk
   have hk:=List.mem_range.mp hk
   have m12 : G3 (.int 12) (.int k) = some (.int ((12 * k : Nat) : Int)):=R3 (i:=12) (by decide) (by omega)
   have e1 : ((at' : Int) + ((12 * k : Nat) : Int)) = ((at' + 12 * k : Nat) : Int):=by omega
   wp_walk using evD,m12,e1,(hf k (by omega)).1
 have mwh : G3 (.int w) (.int h) = some (.int ((w * h : Nat) : Int)):=R3 (by omega) (by omega)
 have cv : ((t : Int) == 0) = decide (t = 0):=by cases t with
  | zero=>rfl
  | succ n=>rw [decide_eq_false (by omega)]; exact beq_eq_false_iff_ne.mpr (by omega)
 obtain ⟨n,en⟩ : ∃ n,w * h = n + 1:=⟨w * h - 1,by omega⟩
 by_cases t0 : t = 0
 ·refine ⟨List.replicate (w * h) (f 0),?_,w1,w8,h1,h8,List.length_replicate ..,fun q hq=>by rw [(List.mem_replicate.mp hq).2]; exact (hf 0 (by decide)).2⟩
  refine B2 (ρ:=[‹scr ns›,‹.int at'›,‹.int w›,‹.int h›,none]) rfl ?_
  have hd : (List.range (w * h)).map (fun k=>(f k).d) = (f 0).d :: (List.range n).map (fun k=>(f (k + 1)).d):=by
   rw [en,List.range_succ_eq_map,xmc,List.map_map]; rfl
  rw [hd] at c
  have v : B0 G3 (al6 (A6 4) J8 (E3 (dC (.int 1)))) (B0 G3 (A6 2) (A6 3)) [‹scr ns›,‹.int at'›,‹.int w›,‹.int h›,‹.list ((f 0).d :: (List.range n).map (fun k=>(f (k + 1)).d))›] = some (.list (List.replicate (w * h) (f 0).d)):=by
   have a1 : al6 (A6 4) J8 (E3 (dC (.int 1))) [‹scr ns›,‹.int at'›,‹.int w›,‹.int h›,‹.list ((f 0).d :: (List.range n).map (fun k=>(f (k + 1)).d))›] = some (.list (P5 ((f 0).d :: (List.range n).map (fun k=>(f (k + 1)).d)) none (some 1))):=rfl
   have a2 : B0 G3 (A6 2) (A6 3) [‹scr ns›,‹.int at'›,‹.int w›,‹.int h›,‹.list ((f 0).d :: (List.range n).map (fun k=>(f (k + 1)).d))›] = some (.int ((w * h : Nat) : Int)):=(av6 rfl rfl).trans mwh
   rw [cx4] at a1
   have a3:=by5 (xs:=[(f 0).d]) (show w * h ≤ 1000 by omega) (show 1 ≤ 1000 by decide)
   rw [p6] at a3
   exact (av6 a1 a2).trans a3
  have t1 : tB2 eqD (A9 B3 (A5 (A6 0) (A5 (B0 C5 (A6 1) (dC (.int 7))) (A5 (dC (.int 3)) A7)))) (dC (.int 0)) [‹scr ns›,‹.int at'›,‹.int w›,‹.int h›,‹.list ((f 0).d :: (List.range n).map (fun k=>(f (k + 1)).d))›] = some true:=by
   simp only [tB2,B0,A9,A5,A7,A6,dC,xms,xbs,xg0,xg1,as9,et',g9,cv,decide_eq_true t0,C6]
  simp only [at2,B4,P7,c,sIf,t1,D3,v,B5,C2,A5,A7,N6,B1,A6,xms,xbs,xw0,xw1,xg0,xg1,if_true,xft,if_false,shD,List.map_replicate]
 ·refine ⟨(List.range (w * h)).map f,?_,w1,w8,h1,h8,by rw [List.length_map,List.length_range],fun q hq=>by
   obtain ⟨k,hk,rfl⟩:=List.mem_map.mp hq
   exact (hf k (by have:=List.mem_range.mp hk; omega)).2⟩
  refine B2 (ρ:=[‹scr ns›,‹.int at'›,‹.int w›,‹.int h›,none]) rfl ?_
  wp_walk using evD,at2,c,et',cv,decide_eq_false t0,shD,List.map_map
  rfl
theorem o9 {n : Nat} {d : D} (g : Gd n d) : ∃ t : Bool,Y3 [d] = some (.bool t) ∧ (D0 (B6 (C3 (A9 C8 (A5 (A6 0) A7)))) (B6 (Y4 (D9 leI leI (dC (.int 1)) (A6 0) (dC (.int 8)))))) [some (.val d)] = some (!t) ∧ (t = true → ∃ i : Nat,d = .int i ∧ 1 ≤ i ∧ i ≤ 8):=by
 have no : ∀ d : D,L7 [d] = some (.bool false) → C8 [d] = some (.bool false) → ∃ t : Bool,Y3 [d] = some (.bool t) ∧ (D0 (B6 (C3 (A9 C8 (A5 (A6 0) A7)))) (B6 (Y4 (D9 leI leI (dC (.int 1)) (A6 0) (dC (.int 8)))))) [some (.val d)] = some (!t) ∧ (t = true → ∃ i : Nat,d = .int i ∧ 1 ≤ i ∧ i ≤ 8):=fun d e1 e2=>by
  refine ⟨false,B2 (ρ:=[some (.val d)]) rfl ?_,?_,fun z=>by cases z⟩
  ·wp_walk using evD,t7,e1
  ·wp_walk using evD,e2
 cases d with
 | int i =>
  have w1 : L7 [.int i] = some (.bool true):=rfl
  have w2 : C8 [.int i] = some (.bool true):=rfl
  by_cases a : 1 ≤ i
  ·by_cases b : i ≤ 8
   ·refine ⟨true,B2 (ρ:=[‹.int i›]) rfl ?_,?_,fun _=>⟨i.toNat,by congr 1; omega,by omega,by omega⟩⟩
    ·wp_walk using evD,t7,w1,a,b,decide_true
    ·wp_walk using evD,w2,a,b,decide_true
   ·refine ⟨false,B2 (ρ:=[‹.int i›]) rfl ?_,?_,fun z=>by cases z⟩
    ·wp_walk using evD,t7,w1,a,b,decide_true,decide_false
    ·wp_walk using evD,w2,a,b,decide_true,decide_false
  ·refine ⟨false,B2 (ρ:=[‹.int i›]) rfl ?_,?_,fun z=>by cases z⟩
   ·wp_walk using evD,t7,w1,a,decide_false
   ·wp_walk using evD,w2,a,decide_false
 | none=>exact no _ rfl rfl
 | bool b=>exact no _ rfl rfl
 | str x=>exact no _ rfl rfl
 | tuple xs=>exact no _ rfl rfl
 | list xs=>exact no _ rfl rfl
 | dict _=>cases n <;> exact g.elim
theorem t5 {α : Type} (f : α → Bool) : ∀ l : List α,aU8 (l.map fun a=>PyData.bool (f a)) = some (l.all f)
 | []=>rfl
 | a :: l=>by
  show (aU8 (l.map fun a=>PyData.bool (f a))).map (fun c=>f a && c) = _
  rw [t5 f l]; rfl
theorem aA5 {α : Type} (f : α → Bool) : ∀ l : List α,l.all f = (l.filter fun a=>!f a).isEmpty
 | []=>rfl
 | a :: l=>by
  rw [List.all_cons,aA5 f l,List.filter_cons]
  cases f a <;> simp
def ay9 (d : D) : Bool:=@decide (P1 [d] = some (.bool true)) (Classical.propDecidable _)
theorem aR7 {n : Nat} {d : D} (g : Gd n d) (hn : n ≤ 60) : P1 [d] = some (.bool (ay9 d)) ∧ M3 [d] = some (.bool (ay9 d)):=by
 obtain ⟨t,e1,e2⟩:=bu5 g hn
 have : ay9 d = t:=by
  unfold ay9
  cases t with
  | true=>exact @decide_eq_true _ (Classical.propDecidable _) e1
  | false=>exact @decide_eq_false _ (Classical.propDecidable _) (by rw [e1]; intro z; cases z)
 rw [this]; exact ⟨e1,e2⟩
theorem bL8 {xs : List D} (h : xs.length ≠ 3) : (((xs.length : Nat) : Int) == 3) = false:=by
 rw [beq_eq_false_iff_ne]; omega
theorem V3 {xs : List D} (h : xs.length ≠ 3) : K4 [.tuple xs] = some (.bool false) ∧ J0 [.tuple xs] = some (.bool false):=by
 have z : K3 [.tuple xs] = some (.bool false):=by
  refine B2 (ρ:=[‹.tuple xs›]) rfl ?_
  wp_walk using evD,Q1,bL8 h
 refine ⟨B2 (ρ:=[‹.tuple xs›,none]) rfl ?_,B2 (ρ:=[‹.tuple xs›]) rfl ?_⟩
 ·wp_walk using evD,Q2,z
 ·wp_walk using evD,O7,bL8 h
theorem K9 {d : D} (h : K7 "tuple" d = some false) : K4 [d] = some (.bool false) ∧ J0 [d] = some (.bool false):=by
 have z : K3 [d] = some (.bool false):=by
  refine B2 (ρ:=[some (.val d)]) rfl ?_
  simp only [Q1,B4,sIf,D0,B6,C3,D5,A6,xg0,xbs,xms,h,J6,xnf,if_true,B5,dC]
 refine ⟨B2 (ρ:=[some (.val d),none]) rfl ?_,B2 (ρ:=[some (.val d)]) rfl ?_⟩
 ·wp_walk using evD,Q2,z
 ·simp only [O7,B4,sIf,D0,B6,C3,D5,A6,xg0,xbs,xms,h,J6,xnf,if_true,B5,dC]
theorem bZ9 {n : Nat} {a b c : D} (hn : n ≤ 59) (ga : Gd n a) (gb : Gd n b) (gc : Gd n c) : ∃ t,K4 [.tuple [a,b,c]] = some (.bool t) ∧ J0 [.tuple [a,b,c]] = some (.bool t):=by
 obtain ⟨ta,ea,ca,ia⟩:=o9 ga
 obtain ⟨tb,eb,cb,ib⟩:=o9 gb
 have l3 : ((([a,b,c] : List D).length : Nat) : Int) = 3:=rfl
 have b3 : ((3 : Int) == 3) = true:=rfl
 have src : (F0 (al6 (A6 0) J8 (E3 (dC (.int 2))))) [‹.tuple [a,b,c]›] = some ([(a,!ta),(b,!tb)].map Prod.fst):=rfl
 have flt : D2 1 [] (F0 (al6 (A6 0) J8 (E3 (dC (.int 2))))) (C9 0) (D0 (B6 (C3 (A9 C8 (A5 (A6 0) A7)))) (B6 (Y4 (D9 leI leI (dC (.int 1)) (A6 0) (dC (.int 8)))))) (A6 0) [‹.tuple [a,b,c]›] = some (([(a,!ta),(b,!tb)].filter Prod.snd).map Prod.fst):=by
  refine W8 (l:=[(a,!ta),(b,!tb)]) (h:=Prod.fst) (f:=Prod.fst) (p:=Prod.snd) (r:=[]) rfl src (by show 2 ≤ 1000; decide) ?_ ?_
  ·intro p hp
   simp only [List.mem_cons,List.not_mem_nil,or_false] at hp
   rcases hp with rfl | rfl
   ·exact ca
   ·exact cb
  ·intro p _; rfl
 have sz : ∀ t,K7 "tuple" c = some t → K3 [.tuple [a,b,c]] = some (.bool (ta && (tb && t))):=fun t hc=>by
  refine B2 (ρ:=[‹.tuple [a,b,c]›]) rfl ?_
  have hi : D5 "tuple" (dIx (B1 0) (dC (.int 2))) [‹.tuple [a,b,c]›] = some (.bool t):=by
   simp only [D5,dIx,B1,dC,xg0,xbs,ab4,hc,xms]
  have hi0 : D5 "tuple" (A6 0) [‹.tuple [a,b,c]›] = some (.bool true):=rfl
  have g0 : dIx (B1 0) (dC (.int 0)) [‹.tuple [a,b,c]›] = some a:=rfl
  have g1 : dIx (B1 0) (dC (.int 1)) [‹.tuple [a,b,c]›] = some b:=rfl
  cases ta <;> cases tb <;> simp only [Q1,B4,sIf,C7,B5,D0,B6,C3,tB2,B0,E5,A9,A5,A7,G9,hi,hi0,g0,g1,B1,dC,A6,xg0,xbs,xms,l3,S2,b3,C6,J6,xnt,xnf,xft,if_true,if_false,ea,eb,Bool.true_and,Bool.false_and]
 have gy : ∀ y ∈ [a,b],Gd n y:=fun y hy=>by
  simp only [List.mem_cons,List.not_mem_nil,or_false] at hy
  rcases hy with rfl | rfl
  ·exact ga
  ·exact gb
 have no : (ta && tb) = false → ∃ t,K4 [.tuple [a,b,c]] = some (.bool t) ∧ J0 [.tuple [a,b,c]] = some (.bool t):=fun hz=>by
  have zz : K3 [.tuple [a,b,c]] = some (.bool false):=by
   obtain ⟨t,ht⟩ : ∃ t,K7 "tuple" c = some t:=by
    cases c <;> first | exact ⟨_,rfl⟩ | (cases n <;> exact gc.elim)
   rw [sz t ht]
   cases ta <;> cases tb <;> first | rfl | cases hz
  have fl : neD (.list (([(a,!ta),(b,!tb)].filter Prod.snd).map Prod.fst)) (.list []) = some (.bool true):=by
   have one : ∀ y ∈ [a,b],neD (.list [y]) (.list []) = some (.bool true):=fun y hy=>av1 (fun z hz=>by rw [List.mem_singleton.mp hz]; exact gy y hy) (by show 1 ≤ 64; decide) (by omega)
   have two : neD (.list [a,b]) (.list []) = some (.bool true):=av1 gy (by show 2 ≤ 64; decide) (by omega)
   cases ta with
   | false=>cases tb with
    | false=>exact two
    | true=>exact one a (by simp)
   | true=>cases tb with
    | false=>exact one b (by simp)
    | true=>exact absurd hz (by decide)
  refine ⟨false,B2 (ρ:=[‹.tuple [a,b,c]›,none]) rfl ?_,B2 (ρ:=[‹.tuple [a,b,c]›]) rfl ?_⟩
  ·wp_walk using evD,Q2,zz
  ·simp only [O7,B4,sIf,C7,B5,D0,B6,C3,tB2,B0,E5,E4,A7,flt,fl,D5,K7,B1,dC,A6,xg0,xbs,xms,l3,S2,b3,C6,J6,xnt,xnf,xft,if_true,if_false]
 cases ta with
 | false=>exact no rfl
 | true =>
  cases tb with
  | false=>exact no rfl
  | true =>
   obtain ⟨i,rfl,i1,i8⟩:=ia rfl
   obtain ⟨j,rfl,j1,j8⟩:=ib rfl
   rw [show (([((.int i : D),!true),((.int j : D),!true)].filter Prod.snd).map Prod.fst) = [] from rfl] at flt
   have fl : neD (.list []) (.list []) = some (.bool false):=rfl
   have mij : G3 (.int i) (.int j) = some (.int ((i * j : Nat) : Int)):=R3 (by omega) (by omega)
   have nott : K7 "tuple" c = some false → ∃ t,K4 [.tuple [.int i,.int j,c]] = some (.bool t) ∧ J0 [.tuple [.int i,.int j,c]] = some (.bool t):=fun hc=>by
    have zz:=sz false hc
    have hi : ∀ q,D5 "tuple" (dIx (B1 0) (dC (.int 2))) (‹.tuple [.int i,.int j,c]› :: q) = some (.bool false):=fun q=>by
     simp only [D5,dIx,B1,dC,xg0,xbs,ab4,hc,xms]
    have hi0 : D5 "tuple" (A6 0) [‹.tuple [.int i,.int j,c]›] = some (.bool true):=rfl
    refine ⟨false,B2 (ρ:=[‹.tuple [.int i,.int j,c]›,none]) rfl ?_,B2 (ρ:=[‹.tuple [.int i,.int j,c]›]) rfl ?_⟩
    ·simp only [Bool.true_and] at zz
     wp_walk using evD,Q2,zz
    ·simp only [O7,B4,sIf,C7,B5,D0,B6,C3,tB2,B0,E5,E4,A7,flt,fl,hi,hi0,B1,dC,A6,xg0,xbs,xms,l3,S2,b3,C6,J6,xnt,xnf,xft,if_true,if_false]
   cases c with
   | tuple cs =>
    cases n with
    | zero=>exact gc.elim
    | succ n =>
    have zz:=sz true rfl
    simp only [Bool.true_and,Bool.and_true] at zz
    have gcs : ∀ x ∈ cs,Gd n x:=gc.2
    have hcs : cs.length ≤ 64:=gc.1
    have ef : eqD (.list (cs.filter fun x=>!ay9 x)) (.list []) = some (.bool (cs.filter fun x=>!ay9 x).isEmpty):=by
     cases e : cs.filter (fun x=>!ay9 x) with
     | nil=>rfl
     | cons y ys =>
      have sub : ∀ x ∈ y :: ys,x ∈ cs:=fun x hx=>by rw [← e] at hx; exact (List.mem_filter.mp hx).1
      exact X0 (fun x hx=>gcs x (sub x hx)) (by rw [← e]; exact Nat.le_trans (List.length_filter_le ..) hcs) (by omega)
    have al : ∀ q : Option B,D2 1 [] (F0 (A6 1)) (C9 0) F7 (A9 P1 (A5 (A6 0) A7)) [q,‹.tuple cs›] = some (cs.map fun x=>.bool (ay9 x)):=fun q=>by
     refine y9 (l:=cs) (h:=id) (r:=[]) rfl (by rw [List.map_id]; rfl) (by omega) fun x hx=>?_
     wp_walk using evD,id,(aR7 (gcs x hx) (by omega)).1
    have la : D2 1 [] (F0 (dIx (B1 0) (dC (.int 2)))) (C9 0) (B6 (C3 (A9 M3 (A5 (A6 0) A7)))) (A6 0) [‹.tuple [.int i,.int j,.tuple cs]›] = some (cs.filter fun x=>!ay9 x):=by
     rw [W8 (l:=cs) (h:=id) (f:=id) (p:=fun x=>!ay9 x) (r:=[]) rfl (by rw [List.map_id]; rfl) (by omega) (fun x hx=>by wp_walk using evD,id,(aR7 (gcs x hx) (by omega)).2) (fun x _=>rfl),List.map_id]
    by_cases hl : cs.length = i * j
    ·have hb : (((cs.length : Nat) : Int) == ((i * j : Nat) : Int)) = true:=by rw [hl]; simp
     refine ⟨cs.all ay9,B2 (ρ:=[‹.tuple [.int i,.int j,.tuple cs]›,none]) rfl ?_,B2 (ρ:=[‹.tuple [.int i,.int j,.tuple cs]›]) rfl ?_⟩
     ·wp_walk using evD,Q2,zz,mij,hb,al,t5
     ·rw [aA5]
      wp_walk using evD,O7,flt,fl,la,ef,l3,b3,mij,hb
    ·have hb : (((cs.length : Nat) : Int) == ((i * j : Nat) : Int)) = false:=by rw [beq_eq_false_iff_ne]; omega
     refine ⟨false,B2 (ρ:=[‹.tuple [.int i,.int j,.tuple cs]›,none]) rfl ?_,B2 (ρ:=[‹.tuple [.int i,.int j,.tuple cs]›]) rfl ?_⟩
     ·wp_walk using evD,Q2,zz,mij,hb
     ·wp_walk using evD,O7,flt,fl,l3,b3,mij,hb
   | none=>exact nott rfl
   | bool _=>exact nott rfl
   | int _=>exact nott rfl
   | str _=>exact nott rfl
   | list _=>exact nott rfl
   | dict _=>cases n <;> exact gc.elim
theorem bj6 {n : Nat} {d : D} (g : Gd n d) (hn : n ≤ 60) : ∃ t,K4 [d] = some (.bool t) ∧ J0 [d] = some (.bool t):=by
 cases d with
 | tuple xs =>
  cases n with
  | zero=>exact g.elim
  | succ n =>
  match xs,g with
  | [a,b,c],g=>exact bZ9 (by omega) (g.2 a (by simp)) (g.2 b (by simp)) (g.2 c (by simp))
  | [],_=>exact ⟨false,V3 (by decide)⟩
  | [a],_=>exact ⟨false,V3 (by simp)⟩
  | [a,b],_=>exact ⟨false,V3 (by simp)⟩
  | a :: b :: c :: e :: r,_=>exact ⟨false,V3 (by simp)⟩
 | none=>exact ⟨false,K9 rfl⟩
 | bool _=>exact ⟨false,K9 rfl⟩
 | int _=>exact ⟨false,K9 rfl⟩
 | str _=>exact ⟨false,K9 rfl⟩
 | list _=>exact ⟨false,K9 rfl⟩
 | dict _=>cases n <;> exact g.elim
end Sh
namespace Sh
open PySem G L2
theorem q4 : (4 : Nat) ≤ 16777216:=by decide
theorem q3 : (3 : Nat) ≤ 16777216:=by decide
end Sh
namespace Sh
open PySem G L2
def Dv (N : Nat) (r : Rat) : Prop:=∃ z : Int,r * (N : Rat) = (z : Rat)
theorem Dv.mul {M N : Nat} {r s : Rat} (h : Dv M r) (g : Dv N s) : Dv (M * N) (r * s):=by
 obtain ⟨a,ha⟩:=h; obtain ⟨b,hb⟩:=g
 exact ⟨a * b,by rw [Rat.intCast_mul,← ha,← hb,Rat.natCast_mul]; grind⟩
theorem Dv.int (N : Nat) (i : Int) : Dv N (i : Rat):=⟨i * N,by rw [Rat.intCast_mul]; rfl⟩
theorem Dv.one (N : Nat) : Dv N 1:=Dv.int N 1
theorem Dv.right {N : Nat} {r : Rat} (h : Dv N r) (M : Nat) : Dv (N * M) r:=by
 have:=h.mul (Dv.one M); rwa [Rat.mul_one] at this
theorem Dv.left {N : Nat} {r : Rat} (h : Dv N r) (M : Nat) : Dv (M * N) r:=by
 have:=(Dv.one M).mul h; rwa [Rat.one_mul] at this
theorem Dv.of (a : Int) {N : Nat} (hN : 0 < N) : Dv N (mkRat a N):=by
 refine ⟨a,?_⟩
 have hN' : (N : Rat) ≠ 0:=by
  intro h
  have : N = 0:=by exact_mod_cast h
  omega
 rw [Rat.mkRat_eq_div]
 exact Rat.div_mul_cancel hN'
def Dn (k : Nat) (q : Q4) : Prop:=∃ N,0 < N ∧ N < 2 ^ k ∧ Dv N q.c ∧ Dv N q.x ∧ Dv N q.y ∧ Dv N q.z
def Ds (k : Nat) (s : Rat) : Prop:=∃ N,0 < N ∧ N < 2 ^ k ∧ Dv N s
theorem al0 {a b j k : Nat} (h1 : a < 2 ^ j) (h2 : b < 2 ^ k) : a * b < 2 ^ (j + k):=by
 rw [Nat.pow_add]
 exact Nat.mul_lt_mul'' h1 h2
def Q4.or (q : Q4) : Prop:=0 ≤ q.x ∧ 0 ≤ q.y ∧ 0 ≤ q.z ∧ q.x ≤ q.c ∧ q.y ≤ q.c ∧ q.z ≤ q.c ∧ q.c ≤ 1
theorem Q4.ok.or {k : Nat} {q : Q4} (h : q.ok k) : q.or:=⟨h.hx.nn,h.hy.nn,h.hz.nn,h.xc,h.yc,h.zc,h.hc.le⟩
structure Dq (k : Nat) (q : Q4) : Prop where
 o : q.or
 n : Dn k q
structure Sr (k : Nat) (s : Rat) : Prop where
 h : IsSh k s
 n : Ds k s
end Sh
namespace Sh
open PySem G L2
inductive Nd where
 | layer (nm : D) (m : Man) (s : Rat) (sh : Bool) (lf tp : Int) (mk : Option (List Rat)) (w h : Nat) (l : List Q4) (kb : Nat)
 | tone (nm : D) (r : Rul) (s : Rat) (sh : Bool)
 | group (nm : D) (m : Man) (s : Rat) (sh : Bool) (ns : List Nd)
def mkD : Option (List Rat) → D
 | none=>.none
 | some ms=>.tuple (ms.map fr)
mutual
def Nd.d : Nd → D
 | .layer nm m s sh lf tp mk w h l _=>.tuple [.str "layer", nm,.str m.s,fr s,.bool sh,.int lf,.int tp,mkD mk,shD w h l]
 | .tone nm r s sh=>.tuple [.str "tone", nm,.str r.s,fr s,.bool sh]
 | .group nm m s sh ns=>.tuple [.str "group", nm,.str m.s,fr s,.bool sh,.tuple (Nd.ds ns)]
def Nd.ds : List Nd → List D
 | []=>[]
 | n :: r=>n.d :: Nd.ds r
end
mutual
def Nd.Ok : Nd → Prop
 | .layer _ _ s _ _ _ mk w h l kb=>Sr 4 s ∧ ShOk kb w h l ∧ (∀ q ∈ l,Dq kb q) ∧ (∀ ms,mk = some ms → ms.length = w * h ∧ ∀ r ∈ ms,Sr 4 r) ∧ 1 ≤ kb
 | .tone _ _ s _=>Sr 4 s
 | .group _ _ s _ ns=>Sr 4 s ∧ Nd.Oks ns
def Nd.Oks : List Nd → Prop
 | []=>True
 | n :: r=>n.Ok ∧ Nd.Oks r
end
mutual
def Nd.wg : Nd → Nat
 | .layer _ _ _ _ _ _ _ _ _ _ kb=>kb + 8
 | .tone ..=>6
 | .group _ _ _ _ ns=>5 + Nd.wgs ns
def Nd.wgs : List Nd → Nat
 | []=>0
 | n :: r=>n.wg + Nd.wgs r
end
mutual
def Nd.dp : Nd → Nat
 | .layer ..=>0
 | .tone ..=>0
 | .group _ _ _ _ ns=>1 + Nd.dps ns
def Nd.dps : List Nd → Nat
 | []=>0
 | n :: r=>max n.dp (Nd.dps r)
end
theorem cy1 : eqD (.str "layer") (.str "tone") = some (.bool false):=O3 (by decide +kernel) (by decide +kernel) (by decide +kernel)
theorem cy2 : eqD (.str "group") (.str "tone") = some (.bool false):=O3 (by decide +kernel) (by decide +kernel) (by decide +kernel)
theorem ct3 : eqD (.str "layer") (.str "group") = some (.bool false):=O3 (by decide +kernel) (by decide +kernel) (by decide +kernel)
theorem ct5 : eqD (.str "group") (.str "group") = some (.bool true):=O3 (by decide +kernel) (by decide +kernel) (by decide +kernel)
section
variable {nm : D} {m : Man} {r : Rul} {s : Rat} {sh : Bool} {lf tp : Int} {mk : Option (List Rat)} {w h : Nat} {l : List Q4} {kb : Nat} {ns : List Nd}
end
end Sh
namespace Sh
open PySem G L2
theorem ct9 (a b c d e f g h i : D) : L2.atI [a,b,c,d,e,f,g,h,i] 0 = some a:=rfl
theorem bT8 (a b c d e f : D) : L2.atI [a,b,c,d,e,f] 0 = some a:=rfl
theorem bT7 (a b c d e f : D) : L2.atI [a,b,c,d,e,f] 5 = some f:=rfl
theorem cu0 (a b c d e : D) : L2.atI [a,b,c,d,e] 0 = some a:=rfl
end Sh
namespace Sh
open PySem G L2
theorem B7 {f g : DS} {ρ ρ' : Rho} (h : f ρ = some (.nx ρ')) : B4 f g ρ = g ρ':=by unfold B4; rw [h]; rfl
theorem ca0 {f g : DS} {ρ : Rho} {d : D} (h : f ρ = some (.rt d)) : B4 f g ρ = some (.rt d):=by unfold B4; rw [h]; rfl
theorem Z0 {α : Type} {g : D → Rho → Option Rho} {f : DS} {h : α → D} {I : Nat → Rho → Prop} : ∀ (l : List α) (i : Nat) (ρ : Rho),I i ρ → (∀ (j : Nat) (a : α),l[j]? = some a → ∀ ρ,I (i + j) ρ → ∃ ρ1,g (h a) ρ = some ρ1 ∧ ∃ ρ',f ρ1 = some (.nx ρ') ∧ I (i + j + 1) ρ') → ∃ ρ',al4 g f (l.map h) ρ = some (.nx ρ') ∧ I (i + l.length) ρ'
 | [],i,ρ,h0,_=>⟨ρ,rfl,h0⟩
 | a :: l,i,ρ,h0,H=>by
  obtain ⟨ρ1,e1,ρ2,e2,h2⟩:=H 0 a rfl ρ h0
  obtain ⟨ρ',e3,h3⟩:=Z0 l (i + 1) ρ2 (by simpa using h2) (fun j b hb ρ hρ=>by
   have:=H (j + 1) b (by simpa using hb) ρ (by rwa [show i + (j + 1) = i + 1 + j by omega])
   rwa [show i + (j + 1) + 1 = i + 1 + j + 1 by omega] at this)
  refine ⟨ρ',?_,by rw [List.length_cons,show i + (l.length + 1) = i + 1 + l.length by omega]; exact h3⟩
  simp only [xmc,al4,e1,xbs,e2,e3]
theorem aS1 {α : Type} (x : α) {n : Nat} {P : Nat → α → Prop} (h : ∀ j,j < n → ∃ a,P j a) : ∃ f : Nat → α,∀ j,j < n → P j (f j):=by
 refine ⟨fun j=>if hj : j < n then Classical.choose (h j hj) else x,fun j hj=>?_⟩
 simp only [dif_pos hj]
 exact Classical.choose_spec (h j hj)
theorem G6 (ns : List Int) (hn : ns.length ≤ 63) {e m' : Int} (k m : Nat) (he : e = (k : Int)) (hm' : m' = (m : Int)) (hk : k < 2 ^ 60) (hm : 0 < m) : ∃ n : Nat,B3 [scr ns,.int e,.int m'] = some (.int n) ∧ n < m:=by
 subst he hm'
 exact V6 ns k m hn hk hm
theorem aO3 (ns : List Int) (hn : ns.length ≤ 63) {e : Int} (k : Nat) (he : e = (k : Int)) (hk : k < 2 ^ 40) : ∃ r,L0 [scr ns,.int e] = some (fr r) ∧ IsSh 4 r:=by
 subst he
 exact ah4 ns k hn hk
theorem bu7 (ns : List Int) (hn : ns.length ≤ 63) {e : Int} (k w h : Nat) (he : e = (k : Int)) (hk : k < 2 ^ 20) (w1 : 1 ≤ w) (w8 : w ≤ 8) (h1 : 1 ≤ h) (h8 : h ≤ 8) : ∃ l : List Q4,u4 [scr ns,.int e,.int w,.int h] = some (shD w h l) ∧ ShOk 8 w h l:=by
 subst he
 exact aJ9 ns k w h hn hk w1 w8 h1 h8
theorem ao2 (r : Rat) : Dv r.den r:=by
 have:=Dv.of r.num (O4 r)
 rwa [Rat.mkRat_self] at this
theorem bd8 {k : Nat} {s : Rat} (h : IsSh k s) : Sr k s:=⟨h,s.den,O4 s,h.bd.den,ao2 s⟩
theorem ct6 {q : Q4} (h : q.ok 8) : Dq 32 q :=
 ⟨h.or,q.c.den * q.x.den * (q.y.den * q.z.den),Nat.mul_pos (Nat.mul_pos (O4 _) (O4 _)) (Nat.mul_pos (O4 _) (O4 _)),al0 (al0 h.hc.bd.den h.hx.den) (al0 h.hy.den h.hz.den),
  ((ao2 q.c).right _).right _,((ao2 q.x).left _).right _,((ao2 q.y).right _).left _,((ao2 q.z).left _).left _⟩
def SOk (s : Str) : Prop:=∀ c ∈ s.cps.toList,97 ≤ c ∧ c ≤ 122
theorem SOk.app {a b : Str} (ha : SOk a) (hb : SOk b) : SOk (a ++ b):=by
 intro c hc
 have : c ∈ (a.cps ++ b.cps).toList:=hc
 rw [Array.toList_append] at this
 rcases List.mem_append.mp this with h | h
 ·exact ha c h
 ·exact hb c h
theorem cj6 (x : Str) (n : Nat) (h : n < x.length) (hx : x.length ≤ 1000) : ∃ s : Str,atS x (n : Int) = some (.str s) ∧ s.length = 1 ∧ (SOk x → SOk s):=by
 unfold atS
 rw [if_pos (by omega)]
 have hl : x.cps.toList.length = x.length:=by unfold Str.length; simp
 have h' : n < x.cps.toList.length:=by omega
 have : atI x.cps.toList (n : Int) = some x.cps.toList[n]:=by
  unfold atI
  rw [aZ0 (by omega) (by omega),xbs,Int.toNat_natCast,List.getElem?_eq_getElem h']
 rw [this]
 refine ⟨⟨#[x.cps.toList[n]]⟩,rfl,rfl,fun hs c hc=>?_⟩
 have : c = x.cps.toList[n]:=by simpa using hc
 rw [this]
 exact hs _ (List.getElem_mem h')
theorem bH2 (x : Str) (lo hi : Option Int) : (slS x lo hi).length ≤ x.length:=by
 unfold slS
 split
 ·exact Nat.le_refl _
 ·unfold Str.length
  rw [List.size_toArray]
  exact Nat.le_trans (List.length_filterMap_le ..) (PyProof.Rows.indices_len_le ..)
theorem bH1 {x : Str} (h : SOk x) (lo hi : Option Int) : SOk (slS x lo hi):=by
 unfold slS
 split
 ·exact h
 ·intro c hc
  simp only [List.toList_toArray] at hc
  obtain ⟨i,_,e⟩:=List.mem_filterMap.mp hc
  exact h c (Array.mem_toList_iff.mpr (Array.mem_of_getElem? e))
theorem bv4 {x : Str} (h : SOk x) (k : Int) (hk : k = 1 ∨ k = 2) : SOk (au1 x k):=by
 unfold au1
 split
 ·exact h
 ·rename_i e
  rcases hk with rfl | rfl
  ·simp at e
  ·intro c hc
   have : c ∈ ((#[] ++ x.cps) ++ x.cps).toList:=hc
   simp at this
   exact h c (Array.mem_toList_iff.mpr this)
theorem bC6 {a b : Str} (ha : SOk a) (hb : SOk b) : SOk (Builtin.Str.glued "" [a,b]):=by
 intro c hc
 have : c ∈ (a.cps ++ ("" : Str).cps ++ b.cps).toList:=hc
 rw [Array.toList_append,Array.toList_append] at this
 rcases List.mem_append.mp this with h | h
 ·rcases List.mem_append.mp h with h | h
  ·exact ha c h
  ·exact absurd h (by simp [show ("" : Str).cps = #[] from rfl])
 ·exact hb c h
theorem bQ9 : SOk "abcdefghijklmnopqrstuvwxyz" := by
 have : ("abcdefghijklmnopqrstuvwxyz" : Str).cps.toList.all (fun c=>decide (97 ≤ c ∧ c ≤ 122)) = true:=by decide +kernel
 intro c hc
 exact of_decide_eq_true (List.all_eq_true.mp this c hc)
def ltr (k : Nat) : Str:=⟨#[97 + k]⟩
theorem ce4 : ∀ k : Nat,k < 14 → atS "abcdefghijklmn" (k : Int) = some (.str (ltr k)):=by
 have e : ("abcdefghijklmn" : Str) = ⟨#[97,98,99,100,101,102,103,104,105,106,107,108,109,110]⟩:=by decide +kernel
 intro k hk
 rw [e]
 rcases (show k = 0 ∨ k = 1 ∨ k = 2 ∨ k = 3 ∨ k = 4 ∨ k = 5 ∨ k = 6 ∨ k = 7 ∨ k = 8 ∨ k = 9 ∨ k = 10 ∨ k = 11 ∨ k = 12 ∨ k = 13 by omega) with rfl | rfl | rfl | rfl | rfl | rfl | rfl | rfl | rfl | rfl | rfl | rfl | rfl | rfl <;> rfl
theorem bf8 (k : Nat) (h : k < 14) : SOk (ltr k):=by
 intro c hc
 have : c = 97 + k:=by simpa [ltr] using hc
 omega
def nmS (b : Bool) (k : Nat) (y : Str) : Str:=if b = true then ltr k ++ y else y ++ ltr k
theorem bf4 (b : Bool) {k : Nat} {y : Str} (hk : k < 14) (hy : SOk y) : SOk (nmS b k y):=by
 unfold nmS
 split
 ·exact (bf8 k hk).app hy
 ·exact hy.app (bf8 k hk)
theorem aO5 (x : Str) (k : Int) (hk : k = 1 ∨ k = 2) : (au1 x k).length ≤ 2 * x.length:=by
 unfold au1
 split
 ·omega
 ·rename_i e
  rcases hk with rfl | rfl
  ·simp at e
  ·show ((#[] ++ x.cps) ++ x.cps).size ≤ 2 * x.cps.size
   simp; omega
theorem bS8 (a b : Str) (ha : a.length = 1) (hb : b.length = 1) : az7 (dC (.str "")) (fun _=>some (false,[.str a,.str b])) [] = some (.str (Builtin.Str.glued "" [a,b])) ∧ (Builtin.Str.glued "" [a,b]).length = 2:=by
 have h2 : (Builtin.Str.glued "" [a,b]).length = 2:=by
  show (a.cps ++ ("" : Str).cps ++ b.cps).size = 2
  unfold Str.length at ha hb
  rw [Array.size_append,Array.size_append,ha,hb]
  rfl
 have h1 : an7 "" [a,b] ≤ 16777216:=by
  show 0 + a.length + ("" : Str).length + b.length + ("" : Str).length ≤ 16777216
  have : ("" : Str).length = 0:=rfl
  omega
 refine ⟨?_,h2⟩
 show (if an7 "" [a,b] ≤ 16777216 ∧ (Builtin.Str.glued "" [a,b]).length ≤ 16777216 then some (PyData.str (Builtin.Str.glued "" [a,b])) else none) = _
 rw [if_pos ⟨h1,by omega⟩]
theorem bN0 {f : DE} {g : Rho → Option (Bool × List D)} {ρ : Rho} {a b : Str} (hf : f ρ = some (.str "")) (hg : g ρ = some (false,[.str a,.str b])) (ha : a.length = 1) (hb : b.length = 1) : az7 f g ρ = some (.str (Builtin.Str.glued "" [a,b])):=by
 rw [← (bS8 a b ha hb).1]
 unfold az7
 rw [hf,hg]
 rfl
theorem bL4 (x : Str) (k : Int) (hk : k = 1 ∨ k = 2) (hx : x.length ≤ 1000) : bm8 (.str x) (.int k) = some (.str (au1 x k)):=by
 show (if 1 ≤ k ∧ k ≤ 2 ∧ x.length ≤ 1000 ∧ (au1 x k).length ≤ 16777216 then some (PyData.str (au1 x k)) else none) = _
 have:=aO5 x k hk
 rw [if_pos ⟨by omega,by omega,hx,by omega⟩]
theorem aT8 (a b : Str) (ha : a.length ≤ 1000) (hb : b.length ≤ 1000) : C5 (.str a) (.str b) = some (.str (a ++ b)):=by
 show (if a.length + b.length ≤ 16777216 then some (PyData.str (a ++ b)) else none) = _
 rw [if_pos (by omega)]
theorem cx0 : ∀ n : Nat,n < 2 → ∃ k : Int,atI ([.int 1,.int 2] : List D) (n : Int) = some (.int k) ∧ (k = 1 ∨ k = 2)
 | 0,_=>⟨1,rfl,.inl rfl⟩
 | 1,_=>⟨2,rfl,.inr rfl⟩
 | n + 2,h=>absurd h (by omega)
def nbA : DS:=(D3 6 (az7 (dC (.str "")) (qN (D2 1 [0,1,5] (K0 (dC (.int 2))) (C9 0) F7 (ac0 (dC (.str "abcdefghijklmnopqrstuvwxyz")) (A9 B3 (A5 (A6 1) (A5 (B0 C5 (B0 C5 (B0 C5 (A6 2) (dC (.int 1))) (B0 G3 (dC (.int 3)) (A6 3))) (A6 0)) (A5 (dC (.int 26)) A7)))))))))
def nbB : DS:=(D3 6 (B0 bm8 (bp5 (A6 6) J8 (E3 (A9 B3 (A5 (A6 0) (A5 (B0 C5 (B0 C5 (A6 1) (dC (.int 3))) (B0 G3 (dC (.int 3)) (A6 5))) (A5 (dC (.int 3)) A7)))))) (dIx (qN (A5 (dC (.int 1)) (A5 (dC (.int 2)) A7))) (A9 B3 (A5 (A6 0) (A5 (B0 C5 (B0 C5 (A6 1) (dC (.int 2))) (B0 G3 (dC (.int 3)) (A6 5))) (A5 (dC (.int 2)) A7)))))))
def nbC : DS:=(T1 4 (dIx (qN (A5 (B0 C5 (A6 6) (ac0 (dC (.str "abcdefghijklmn")) (A6 5))) (A5 (B0 C5 (ac0 (dC (.str "abcdefghijklmn")) (A6 5)) (A6 6)) A7))) (r8 (A6 3))))
def aQ2 : DS:=B4 nbA (B4 nbB nbC)
theorem bC4 : aG6 = (B4 (D3 3 (B0 eqD (A9 B3 (A5 (A6 0) (A5 (A6 1) (A5 (dC (.int 2)) A7)))) (dC (.int 0)))) (B4 (U4 4 A7) (B4 (W3 (K0 (A6 2)) (C9 5) aQ2) (ak6 4 (B5 (A6 4)))))):=rfl
def gb0 : DS:=(D3 8 (A9 B3 (A5 (A6 0) (A5 (B0 C5 (B0 C5 (A6 1) (dC (.int 3))) (B0 G3 (dC (.int 5)) (A6 7))) (A5 (B0 C5 (E5 (B1 6)) (dC (.int 1))) A7)))))
def gb1 : DS:=(D3 9 (B0 C5 (A6 8) (A9 B3 (A5 (A6 0) (A5 (B0 C5 (B0 C5 (A6 1) (dC (.int 4))) (B0 G3 (dC (.int 5)) (A6 7))) (A5 (dC (.int 3)) A7))))))
def gb2 : DS:=(D3 10 (dIx (qN (A5 (C2 (A5 (dC (.int 1)) (A5 (dC (.int 1)) A7))) (A5 (A9 L0 (A5 (A6 0) (A5 (B0 C5 (B0 C5 (A6 1) (dC (.int 5))) (B0 G3 (dC (.int 5)) (A6 7))) A7))) A7))) (A9 B3 (A5 (A6 0) (A5 (B0 C5 (B0 C5 (A6 1) (dC (.int 6))) (B0 G3 (dC (.int 5)) (A6 7))) (A5 (dC (.int 2)) A7))))))
def gb3 : DS:=(D3 11 (dIx (qN (A5 (A6 4) (A5 (dC (.str "atop")) (A5 (A6 4) (A5 (dC (.str "cut")) A7))))) (A9 B3 (A5 (A6 0) (A5 (B0 C5 (B0 C5 (A6 1) (dC (.int 7))) (B0 G3 (dC (.int 5)) (A6 7))) (A5 (dC (.int 4)) A7))))))
def gb4 : DS:=(D3 12 (C2 (A5 (dC (.str "group")) (A5 (dIx (B1 3) (B0 C5 (A6 2) (A6 7))) (A5 (A6 11) (A5 (A6 10) (A5 (B0 gtI (A9 B3 (A5 (A6 0) (A5 (B0 C5 (B0 C5 (A6 1) (dC (.int 14))) (A6 7)) (A5 (dC (.int 7)) A7)))) (dC (.int 0))) A7)))))))
def gb5 : DS:=(bu9 6 (E3 (A6 8)) (E3 (A6 9)) (A5 (B0 C5 (A6 12) (C2 (A5 (N6 (qE (bp6 (B1 6) (E3 (A6 8)) (E3 (A6 9))))) A7))) A7))
def bg7 : DS:=(B4 gb0 (B4 gb1 (B4 gb2 (B4 gb3 (B4 gb4 gb5)))))
def gn0 : DS:=(D3 4 (dIx (qN (A5 (dC (.str "over")) (A5 (dC (.str "multiply")) (A5 (dC (.str "screen")) (A5 (dC (.str "plus")) A7))))) (A9 B3 (A5 (A6 0) (A5 (A6 1) (A5 (dC (.int 4)) A7))))))
def gn1 : DS:=(D3 5 (A9 B3 (A5 (A6 0) (A5 (B0 C5 (A6 1) (dC (.int 1))) (A5 (B0 C5 (A6 2) (dC (.int 1))) A7)))))
def gn2 : DS:=(U4 6 (D2 1 [0,4,3,1] (K0 (A6 5)) (C9 0) F7 (A9 c7 (A5 (A6 1) (A5 (B0 C5 (B0 C5 (A6 4) (dC (.int 20))) (B0 G3 (dC (.int 170)) (A6 0))) (A5 (dIx (B1 3) (A6 0)) (A5 (A6 2) A7)))))))
def gn3 : DS:=(W3 (K0 (A9 B3 (A5 (A6 0) (A5 (B0 C5 (A6 1) (dC (.int 2))) (A5 (dC (.int 3)) A7))))) (C9 7) bg7)
def gn4 : DS:=(B5 (N6 (B1 6)))
theorem bC3 : aG5 = (B4 gn0 (B4 gn1 (B4 gn2 (B4 gn3 gn4)))):=rfl
theorem ce0 (ns : List Int) (hn : ns.length ≤ 63) (at' k : Nat) (ha : at' < 2 ^ 20) (hk : k < 14) (a2 : Option B) (b : Bool) (L : List D) (a6 : Option B) : ∃ x : Str,nbA [‹scr ns›,‹.int at'›,a2,‹.bool b›,some (.own L),‹.int k›,a6] = some (.nx [‹scr ns›,‹.int at'›,a2,‹.bool b›,some (.own L),‹.int k›,‹.str x›]) ∧ x.length = 2 ∧ SOk x:=by
 have m3 : G3 (.int 3) (.int k) = some (.int ((3 * k : Nat) : Int)):=R3 (i:=3) (by decide) (by omega)
 have P : ∀ j,j < 2 → ∃ s : Str,ac0 (dC (.str "abcdefghijklmnopqrstuvwxyz")) (A9 B3 (A5 (A6 1) (A5 (B0 C5 (B0 C5 (B0 C5 (A6 2) (dC (.int 1))) (B0 G3 (dC (.int 3)) (A6 3))) (A6 0)) (A5 (dC (.int 26)) A7)))) [‹.int (j : Nat)›,‹scr ns›,‹.int at'›,‹.int k›] = some (.str s) ∧ s.length = 1 ∧ SOk s:=fun j hj=>by
  obtain ⟨d,ed,ld⟩:=G6 ns hn (e:=(at' : Int) + 1 + ((3 * k : Nat) : Int) + (j : Int)) (m':=26) (at' + 1 + 3 * k + j) 26 (by omega) rfl (by omega) (by decide)
  obtain ⟨s,es,ls,ss⟩:=cj6 "abcdefghijklmnopqrstuvwxyz" d ld (by decide)
  refine ⟨s,?_,ls,ss bQ9⟩
  wp_walk using evD,ac0,m3,ed,es
 obtain ⟨S,hS⟩:=aS1 (x:=("" : Str)) P
 have c : D2 1 [0,1,5] (K0 (dC (.int 2))) (C9 0) F7 (ac0 (dC (.str "abcdefghijklmnopqrstuvwxyz")) (A9 B3 (A5 (A6 1) (A5 (B0 C5 (B0 C5 (B0 C5 (A6 2) (dC (.int 1))) (B0 G3 (dC (.int 3)) (A6 3))) (A6 0)) (A5 (dC (.int 26)) A7))))) [‹scr ns›,‹.int at'›,a2,‹.bool b›,some (.own L),‹.int k›,a6] = some ((List.range 2).map fun j=>.str (S j)) :=
  y9 (l:=List.range 2) (h:=fun j : Nat=>PyData.int j) (r:=[‹scr ns›,‹.int at'›,‹.int k›]) rfl (y6 (n:=2) rfl (by decide)) (by decide) fun j hj=>(hS j (List.mem_range.mp hj)).1
 refine ⟨Builtin.Str.glued "" [S 0,S 1],?_,(bS8 _ _ (hS 0 (by decide)).2.1 (hS 1 (by decide)).2.1).2,bC6 (hS 0 (by decide)).2.2 (hS 1 (by decide)).2.2⟩
 have jn:=bN0 (f:=dC (.str "")) (g:=qN (D2 1 [0,1,5] (K0 (dC (.int 2))) (C9 0) F7 (ac0 (dC (.str "abcdefghijklmnopqrstuvwxyz")) (A9 B3 (A5 (A6 1) (A5 (B0 C5 (B0 C5 (B0 C5 (A6 2) (dC (.int 1))) (B0 G3 (dC (.int 3)) (A6 3))) (A6 0)) (A5 (dC (.int 26)) A7))))))) (ρ:=[‹scr ns›,‹.int at'›,a2,‹.bool b›,some (.own L),‹.int k›,a6]) rfl (by unfold qN; rw [c]; rfl) (hS 0 (by decide)).2.1 (hS 1 (by decide)).2.1
 unfold nbA D3
 rw [jn]
 rfl
theorem cd9 (ns : List Int) (hn : ns.length ≤ 63) (at' k : Nat) (ha : at' < 2 ^ 20) (hk : k < 14) (a2 : Option B) (b : Bool) (L : List D) (x : Str) (hx : x.length = 2) (sx : SOk x) : ∃ y : Str,nbB [‹scr ns›,‹.int at'›,a2,‹.bool b›,some (.own L),‹.int k›,‹.str x›] = some (.nx [‹scr ns›,‹.int at'›,a2,‹.bool b›,some (.own L),‹.int k›,‹.str y›]) ∧ y.length ≤ 4 ∧ SOk y:=by
 have m3 : G3 (.int 3) (.int k) = some (.int ((3 * k : Nat) : Int)):=R3 (i:=3) (by decide) (by omega)
 obtain ⟨d,ed,ld⟩:=G6 ns hn (e:=(at' : Int) + 3 + ((3 * k : Nat) : Int)) (m':=3) (at' + 3 + 3 * k) 3 (by omega) rfl (by omega) (by decide)
 obtain ⟨d',ed',ld'⟩:=G6 ns hn (e:=(at' : Int) + 2 + ((3 * k : Nat) : Int)) (m':=2) (at' + 2 + 3 * k) 2 (by omega) rfl (by omega) (by decide)
 obtain ⟨kk,ek,hk'⟩:=cx0 d' ld'
 have sl:=bH2 x none (some (d : Int))
 have rl:=aO5 (slS x none (some (d : Int))) kk hk'
 refine ⟨au1 (slS x none (some (d : Int))) kk,?_,by omega,bv4 (bH1 sx _ _) kk hk'⟩
 have a1 : bp5 (A6 6) J8 (E3 (A9 B3 (A5 (A6 0) (A5 (B0 C5 (B0 C5 (A6 1) (dC (.int 3))) (B0 G3 (dC (.int 3)) (A6 5))) (A5 (dC (.int 3)) A7))))) [‹scr ns›,‹.int at'›,a2,‹.bool b›,some (.own L),‹.int k›,‹.str x›] = some (.str (slS x none (some (d : Int)))):=by
  have cnd : x.length ≤ 1000 ∧ (slS x none (some (d : Int))).length ≤ 16777216:=⟨by omega,by omega⟩
  wp_walk using evD,bp5,m3,ed,if_pos cnd
 have a2 : dIx (qN (A5 (dC (.int 1)) (A5 (dC (.int 2)) A7))) (A9 B3 (A5 (A6 0) (A5 (B0 C5 (B0 C5 (A6 1) (dC (.int 2))) (B0 G3 (dC (.int 3)) (A6 5))) (A5 (dC (.int 2)) A7)))) [‹scr ns›,‹.int at'›,a2,‹.bool b›,some (.own L),‹.int k›,‹.str x›] = some (.int kk):=by
  wp_walk using evD,m3,ed',ek
 unfold nbB D3
 rw [av6 a1 a2,bL4 _ kk hk' (by omega)]
 rfl
theorem ifb (b : Bool) (x y : D) : atI [x,y] (if b = true then 1 else 0) = some (if b = true then y else x):=by cases b <;> rfl
theorem cd8 (ns : List Int) (at' k : Nat) (hk : k < 14) (a2 : Option B) (b : Bool) (L : List D) (hL : L.length ≤ 100) (y : Str) (hy : y.length ≤ 4) : nbC [‹scr ns›,‹.int at'›,a2,‹.bool b›,some (.own L),‹.int k›,‹.str y›] = some (.nx [‹scr ns›,‹.int at'›,a2,‹.bool b›,some (.own (L ++ [.str (nmS b k y)])),‹.int k›,‹.str y›]):=by
 have ec:=ce4 k hk
 have lc : (ltr k).length = 1:=rfl
 have c1:=aT8 y (ltr k) (by omega) (by omega)
 have c2:=aT8 (ltr k) y (by omega) (by omega)
 have hl : L.length < 16777216:=by omega
 have e : dIx (qN (A5 (B0 C5 (A6 6) (ac0 (dC (.str "abcdefghijklmn")) (A6 5))) (A5 (B0 C5 (ac0 (dC (.str "abcdefghijklmn")) (A6 5)) (A6 6)) A7))) (r8 (A6 3)) [‹scr ns›,‹.int at'›,a2,‹.bool b›,some (.own L),‹.int k›,‹.str y›] = some (.str (nmS b k y)):=by
  wp_walk using evD,ac0,ec,c1,c2,ifb
  cases b <;> rfl
 unfold nbC T1
 simp only [xg0,xg1,if_pos hl,e,xms,xw0,xw1]
theorem by2 (ns : List Int) (hn : ns.length ≤ 63) (at' many : Nat) (ha : at' < 2 ^ 20) (hm : many ≤ 14) : ∃ L : List D,u5 [scr ns,.int at',.int many] = some (.list L) ∧ L.length = many ∧ ∃ b : Bool,∀ i,i < many → ∃ y,L[i]? = some (.str (nmS b i y)) ∧ SOk y ∧ y.length ≤ 4:=by
 obtain ⟨d,ed,ld⟩:=G6 ns hn (e:=(at' : Int)) (m':=2) at' 2 rfl rfl (by omega) (by decide)
 obtain ⟨ρ',e,L,a5,a6,hρ,hL,hP⟩:=Z0 (g:=C9 5) (f:=aQ2) (h:=fun j : Nat=>PyData.int j) (I:=fun i ρ=>∃ (L : List D) (a5 a6 : Option B),ρ = [‹scr ns›,‹.int at'›,‹.int many›,‹.bool ((d : Int) == 0)›,some (.own L),a5,a6] ∧ L.length = i ∧ ∀ n,n < i → ∃ y,L[n]? = some (.str (nmS ((d : Int) == 0) n y)) ∧ SOk y ∧ y.length ≤ 4) (List.range many) 0 [‹scr ns›,‹.int at'›,‹.int many›,‹.bool ((d : Int) == 0)›,some (.own []),none,none] ⟨[],none,none,rfl,rfl,fun n h=>absurd h (Nat.not_lt_zero n)⟩ (fun j a hj ρ hρ=>by
  obtain ⟨L,a5,a6,rfl,hL,hP⟩:=hρ
  obtain ⟨hj1,hj2⟩:=List.getElem?_eq_some_iff.mp hj
  rw [List.length_range] at hj1
  rw [List.getElem_range] at hj2
  subst hj2
  refine ⟨_,rfl,?_⟩
  simp only [xw0,xw1]
  obtain ⟨x,e1,hx,sx⟩:=ce0 ns hn at' j ha (by omega) (‹.int many›) ((d : Int) == 0) L a6
  obtain ⟨y,e2,hy,sy⟩:=cd9 ns hn at' j ha (by omega) (‹.int many›) ((d : Int) == 0) L x hx sx
  have e3:=cd8 ns at' j (by omega) (‹.int many›) ((d : Int) == 0) L (by omega) y hy
  have eb : aQ2 [‹scr ns›,‹.int at'›,‹.int many›,‹.bool ((d : Int) == 0)›,some (.own L),‹.int j›,a6] = some (.nx [‹scr ns›,‹.int at'›,‹.int many›,‹.bool ((d : Int) == 0)›,some (.own (L ++ [.str (nmS ((d : Int) == 0) j y)])),‹.int j›,‹.str y›]):=by
   unfold aQ2
   rw [B7 e1,B7 e2,e3]
  refine ⟨_,eb,L ++ [.str (nmS ((d : Int) == 0) j y)],_,_,rfl,by rw [List.length_append,hL]; rfl,fun n hn=>?_⟩
  by_cases q : n < 0 + j
  ·obtain ⟨z,e1,e2⟩:=hP n q
   exact ⟨z,by rw [List.getElem?_append_left (by omega)]; exact e1,e2⟩
  ·have : n = L.length:=by omega
   refine ⟨y,?_,sy,hy⟩
   rw [this,List.getElem?_append_right (Nat.le_refl _),Nat.sub_self]
   rw [show L.length = j by omega]
   rfl)
 subst hρ
 rw [List.length_range,Nat.zero_add] at hL hP
 refine ⟨L,?_,hL,_,hP⟩
 refine B2 (ρ:=[‹scr ns›,‹.int at'›,‹.int many›,none,none,none,none]) rfl ?_
 have rn : K0 (A6 2) [‹scr ns›,‹.int at'›,‹.int many›,‹.bool ((d : Int) == 0)›,some (.own []),none,none] = _:=y6 (n:=many) rfl (by omega)
 have s0 : (D3 3 (B0 eqD (A9 B3 (A5 (A6 0) (A5 (A6 1) (A5 (dC (.int 2)) A7)))) (dC (.int 0)))) [‹scr ns›,‹.int at'›,‹.int many›,none,none,none,none] = some (.nx [‹scr ns›,‹.int at'›,‹.int many›,‹.bool ((d : Int) == 0)›,none,none,none]):=by
  simp only [D3,B0,A9,A5,A7,A6,dC,xbs,xms,xg0,xg1,xw0,xw1,ed,g9]
 have s1 : (U4 4 A7) [‹scr ns›,‹.int at'›,‹.int many›,‹.bool ((d : Int) == 0)›,none,none,none] = some (.nx [‹scr ns›,‹.int at'›,‹.int many›,‹.bool ((d : Int) == 0)›,some (.own []),none,none]):=rfl
 have s2 : (W3 (K0 (A6 2)) (C9 5) aQ2) [‹scr ns›,‹.int at'›,‹.int many›,‹.bool ((d : Int) == 0)›,some (.own []),none,none] = some (.nx [‹scr ns›,‹.int at'›,‹.int many›,‹.bool ((d : Int) == 0)›,some (.own L),a5,a6]):=by
  unfold W3
  rw [rn]
  exact e
 have s3 : (ak6 4 (B5 (A6 4))) [‹scr ns›,‹.int at'›,‹.int many›,‹.bool ((d : Int) == 0)›,some (.own L),a5,a6] = some (.rt (.list L)):=rfl
 rw [bC4,B7 s0,B7 s1,B7 s2]
 exact s3
theorem cw7 : ∀ n : Nat,n < 6 → ∃ m : Man,atI ([.str "over", .str "multiply", .str "screen", .str "plus", .str "atop", .str "cut"] : List D) (n : Int) = some (.str m.s)
 | 0,_=>⟨.over,rfl⟩
 | 1,_=>⟨.mult,rfl⟩
 | 2,_=>⟨.screen,rfl⟩
 | 3,_=>⟨.plus,rfl⟩
 | 4,_=>⟨.atop,rfl⟩
 | 5,_=>⟨.cut,rfl⟩
 | n + 6,h=>absurd h (by omega)
theorem cw8 : ∀ n : Nat,n < 4 → ∃ m : Man,atI ([.str "over", .str "multiply", .str "screen", .str "plus"] : List D) (n : Int) = some (.str m.s)
 | 0,_=>⟨.over,rfl⟩
 | 1,_=>⟨.mult,rfl⟩
 | 2,_=>⟨.screen,rfl⟩
 | 3,_=>⟨.plus,rfl⟩
 | n + 4,h=>absurd h (by omega)
theorem cr4 (m : Man) : ∀ n : Nat,n < 4 → ∃ m' : Man,atI ([.str m.s,.str "atop", .str m.s,.str "cut"] : List D) (n : Int) = some (.str m'.s)
 | 0,_=>⟨m,rfl⟩
 | 1,_=>⟨.atop,rfl⟩
 | 2,_=>⟨m,rfl⟩
 | 3,_=>⟨.cut,rfl⟩
 | n + 4,h=>absurd h (by omega)
theorem cv8 : ∀ n : Nat,n < 3 → ∃ r : Rul,atI ([.str "turn", .str "grey", .str "round"] : List D) (n : Int) = some (.str r.s)
 | 0,_=>⟨.turn,rfl⟩
 | 1,_=>⟨.grey,rfl⟩
 | 2,_=>⟨.round,rfl⟩
 | n + 3,h=>absurd h (by omega)
theorem bi2 (n : Nat) : ((n : Int) == 0) = decide (n = 0):=by
 cases n with
 | zero=>rfl
 | succ n=>rw [decide_eq_false (by omega)]; exact beq_eq_false_iff_ne.mpr (by omega)
theorem bG1 (n : Nat) : (decide ((0 : Int) < (n : Int))) = decide (0 < n):=by
 cases n with
 | zero=>rfl
 | succ n=>rw [decide_eq_true (by omega),decide_eq_true (by omega)]
theorem ad1 (n : Nat) : (1 : Int) + (n : Int) = ((1 + n : Nat) : Int):=by omega
def Nd.nm : Nd → D
 | .layer nm ..=>nm
 | .tone nm ..=>nm
 | .group nm ..=>nm
mutual
def Nd.near : Nd → Prop
 | .layer _ _ _ _ lf tp _ w h l kb=>-2 ≤ lf ∧ lf ≤ 2 ∧ -2 ≤ tp ∧ tp ≤ 2 ∧ kb ≤ 40 ∧ w ≤ 3 ∧ h ≤ 3 ∧ ∀ q ∈ l,q.ok 8
 | .tone ..=>True
 | .group _ _ _ _ ns=>Nd.nears ns
def Nd.nears : List Nd → Prop
 | []=>True
 | n :: r=>n.near ∧ Nd.nears r
end
theorem Q6 : ∀ l : List Nd,Nd.nears l ↔ ∀ n ∈ l,n.near
 | []=>by simp [Nd.nears]
 | n :: r=>by simp [Nd.nears,Q6 r]
theorem bL9 (ns : List Int) (hn : ns.length ≤ 63) (at' : Nat) (ha : at' < 2 ^ 19) (nm : D) (m : Man) : ∃ n : Nd,c7 [scr ns,.int at',nm,.str m.s] = some n.d ∧ n.Ok ∧ n.dp = 0 ∧ n.wg ≤ 40 ∧ n.nm = nm ∧ n.near:=by
 obtain ⟨s,es,hs⟩:=ah4 ns at' hn (by omega)
 have es : L0 [scr ns,.int at'] = some (fr s):=es
 obtain ⟨d3,e3,l3⟩:=G6 ns hn (e:=(at' : Int) + 3) (m':=6) (at' + 3) 6 (by omega) rfl (by omega) (by decide)
 obtain ⟨d4,e4,l4⟩:=G6 ns hn (e:=(at' : Int) + 4) (m':=6) (at' + 4) 6 (by omega) rfl (by omega) (by decide)
 obtain ⟨d6,e6,l6⟩:=G6 ns hn (e:=(at' : Int) + 6) (m':=3) (at' + 6) 3 (by omega) rfl (by omega) (by decide)
 obtain ⟨d7,e7,l7⟩:=G6 ns hn (e:=(at' : Int) + 7) (m':=3) (at' + 7) 3 (by omega) rfl (by omega) (by decide)
 obtain ⟨d8,e8,l8⟩:=G6 ns hn (e:=(at' : Int) + 8) (m':=3) (at' + 8) 3 (by omega) rfl (by omega) (by decide)
 obtain ⟨d9,e9,l9⟩:=G6 ns hn (e:=(at' : Int) + 9) (m':=3) (at' + 9) 3 (by omega) rfl (by omega) (by decide)
 obtain ⟨d10,e10,l10⟩:=G6 ns hn (e:=(at' : Int) + 10) (m':=4) (at' + 10) 4 (by omega) rfl (by omega) (by decide)
 obtain ⟨d11,e11,l11⟩:=G6 ns hn (e:=(at' : Int) + 11) (m':=4) (at' + 11) 4 (by omega) rfl (by omega) (by decide)
 obtain ⟨d12,e12,l12⟩:=G6 ns hn (e:=(at' : Int) + 12) (m':=3) (at' + 12) 3 (by omega) rfl (by omega) (by decide)
 obtain ⟨d5,e5,l5⟩:=G6 ns hn (e:=(at' : Int) + 5) (m':=3) (at' + 5) 3 (by omega) rfl (by omega) (by decide)
 obtain ⟨d5',e5',l5'⟩:=G6 ns hn (e:=(at' : Int) + 5) (m':=6) (at' + 5) 6 (by omega) rfl (by omega) (by decide)
 have s0 : ac7 [‹scr ns›,‹.int at'›,some (.val nm),‹.str m.s›,none,none,none,none,none,none,none,none,none] = some (.nx [‹scr ns›,‹.int at'›,some (.val nm),‹.str m.s›,‹fr s›,none,none,none,none,none,none,none,none]):=by
  wp_walk using evD,ac7,es
 have s1 : ac6 [‹scr ns›,‹.int at'›,some (.val nm),‹.str m.s›,‹fr s›,none,none,none,none,none,none,none,none] = some (.nx [‹scr ns›,‹.int at'›,some (.val nm),‹.str m.s›,‹fr s›,‹.bool (decide (0 < d3))›,none,none,none,none,none,none,none]):=by
  wp_walk using evD,ac6,e3,bG1
 by_cases t4 : d4 = 0
 ·obtain ⟨r,er⟩:=cv8 d5 l5
  refine ⟨.tone nm r s (decide (0 < d3)),?_,bd8 hs,rfl,by show 6 ≤ 40; decide,rfl,by rw [Nd.near]; trivial⟩
  have s2 : V2 [‹scr ns›,‹.int at'›,some (.val nm),‹.str m.s›,‹fr s›,‹.bool (decide (0 < d3))›,none,none,none,none,none,none,none] = some (.rt (.tuple [.str "tone", nm,.str r.s,fr s,.bool (decide (0 < d3))])):=by
   wp_walk using evD,V2,e4,bi2,decide_eq_true t4,e5,er
  refine B2 (ρ:=[‹scr ns›,‹.int at'›,some (.val nm),‹.str m.s›,none,none,none,none,none,none,none,none,none]) rfl ?_
  unfold aA7
  rw [B7 s0,B7 s1,ca0 s2,Nd.d]
 have s2 : V2 [‹scr ns›,‹.int at'›,some (.val nm),‹.str m.s›,‹fr s›,‹.bool (decide (0 < d3))›,none,none,none,none,none,none,none] = some (.nx [‹scr ns›,‹.int at'›,some (.val nm),‹.str m.s›,‹fr s›,‹.bool (decide (0 < d3))›,none,none,none,none,none,none,none]):=by
  wp_walk using evD,V2,e4,bi2,decide_eq_false t4
 obtain ⟨m0,em0⟩:=cw7 d5' l5'
 have s3 : ac5 [‹scr ns›,‹.int at'›,some (.val nm),‹.str m.s›,‹fr s›,‹.bool (decide (0 < d3))›,none,none,none,none,none,none,none] = some (.nx [‹scr ns›,‹.int at'›,some (.val nm),‹.str m.s›,‹fr s›,‹.bool (decide (0 < d3))›,‹.str m0.s›,none,none,none,none,none,none]):=by
  wp_walk using evD,ac5,e5',em0
 obtain ⟨m1,s4⟩ : ∃ m1 : Man,i9 [‹scr ns›,‹.int at'›,some (.val nm),‹.str m.s›,‹fr s›,‹.bool (decide (0 < d3))›,‹.str m0.s›,none,none,none,none,none,none] = some (.nx [‹scr ns›,‹.int at'›,some (.val nm),‹.str m.s›,‹fr s›,‹.bool (decide (0 < d3))›,‹.str m1.s›,none,none,none,none,none,none]):=by
  by_cases t6 : 0 < d6
  ·exact ⟨m,by wp_walk using evD,i9,e6,bG1,decide_eq_true t6⟩
  ·exact ⟨m0,by wp_walk using evD,i9,e6,bG1,decide_eq_false t6⟩
 have s5 : ac4 [‹scr ns›,‹.int at'›,some (.val nm),‹.str m.s›,‹fr s›,‹.bool (decide (0 < d3))›,‹.str m1.s›,none,none,none,none,none,none] = some (.nx [‹scr ns›,‹.int at'›,some (.val nm),‹.str m.s›,‹fr s›,‹.bool (decide (0 < d3))›,‹.str m1.s›,‹.int ((1 + d7 : Nat) : Int)›,none,none,none,none,none]):=by
  wp_walk using evD,ac4,e7,ad1
 have s6 : ac3 [‹scr ns›,‹.int at'›,some (.val nm),‹.str m.s›,‹fr s›,‹.bool (decide (0 < d3))›,‹.str m1.s›,‹.int ((1 + d7 : Nat) : Int)›,none,none,none,none,none] = some (.nx [‹scr ns›,‹.int at'›,some (.val nm),‹.str m.s›,‹fr s›,‹.bool (decide (0 < d3))›,‹.str m1.s›,‹.int ((1 + d7 : Nat) : Int)›,‹.int ((1 + d8 : Nat) : Int)›,none,none,none,none]):=by
  wp_walk using evD,ac3,e8,ad1
 have s7 : ac2 [‹scr ns›,‹.int at'›,some (.val nm),‹.str m.s›,‹fr s›,‹.bool (decide (0 < d3))›,‹.str m1.s›,‹.int ((1 + d7 : Nat) : Int)›,‹.int ((1 + d8 : Nat) : Int)›,none,none,none,none] = some (.nx [‹scr ns›,‹.int at'›,some (.val nm),‹.str m.s›,‹fr s›,‹.bool (decide (0 < d3))›,‹.str m1.s›,‹.int ((1 + d7 : Nat) : Int)›,‹.int ((1 + d8 : Nat) : Int)›,some (.val .none),none,none,none]):=by
  wp_walk using evD,ac2
 have wh : (1 + d7) * (1 + d8) ≤ 9:=Nat.mul_le_mul (show 1 + d7 ≤ 3 by omega) (show 1 + d8 ≤ 3 by omega)
 have mwh : G3 (.int ((1 + d7 : Nat) : Int)) (.int ((1 + d8 : Nat) : Int)) = some (.int (((1 + d7) * (1 + d8) : Nat) : Int)):=R3 (by omega) (by omega)
 obtain ⟨mk,s8,hmk⟩ : ∃ mk : Option (List Rat),i6 [‹scr ns›,‹.int at'›,some (.val nm),‹.str m.s›,‹fr s›,‹.bool (decide (0 < d3))›,‹.str m1.s›,‹.int ((1 + d7 : Nat) : Int)›,‹.int ((1 + d8 : Nat) : Int)›,some (.val .none),none,none,none] = some (.nx [‹scr ns›,‹.int at'›,some (.val nm),‹.str m.s›,‹fr s›,‹.bool (decide (0 < d3))›,‹.str m1.s›,‹.int ((1 + d7 : Nat) : Int)›,‹.int ((1 + d8 : Nat) : Int)›,‹mkD mk›,none,none,none]) ∧ ∀ ms,mk = some ms → ms.length = (1 + d7) * (1 + d8) ∧ ∀ r ∈ ms,Sr 4 r:=by
  by_cases t9 : d9 = 0
  ·have P : ∀ j,j < 9 → ∃ r : Rat,L0 [scr ns,.int ((at' : Int) + 20 + ((3 * j : Nat) : Int))] = some (fr r) ∧ IsSh 4 r:=fun j hj=>aO3 ns hn (at' + 20 + 3 * j) (by omega) (by omega)
   obtain ⟨R,hR⟩:=aS1 (x:=(0 : Rat)) P
   have c : D2 1 [0,1] (K0 (B0 G3 (A6 7) (A6 8))) (C9 0) F7 (A9 L0 (A5 (A6 1) (A5 (B0 C5 (B0 C5 (A6 2) (dC (.int 20))) (B0 G3 (dC (.int 3)) (A6 0))) A7))) [‹scr ns›,‹.int at'›,some (.val nm),‹.str m.s›,‹fr s›,‹.bool (decide (0 < d3))›,‹.str m1.s›,‹.int ((1 + d7 : Nat) : Int)›,‹.int ((1 + d8 : Nat) : Int)›,some (.val .none),none,none,none] = some ((List.range ((1 + d7) * (1 + d8))).map fun j=>fr (R j)):=by
    refine y9 (l:=List.range ((1 + d7) * (1 + d8))) (h:=fun j : Nat=>PyData.int j) (r:=[‹scr ns›,‹.int at'›]) rfl (y6 ((av6 rfl rfl).trans mwh) (by omega)) (by rw [List.length_range]; omega) fun j hj=>?_
    have hj:=List.mem_range.mp hj
    have m3 : G3 (.int 3) (.int j) = some (.int ((3 * j : Nat) : Int)):=R3 (i:=3) (by decide) (by omega)
    wp_walk using evD,m3,(hR j (by omega)).1
   refine ⟨some ((List.range ((1 + d7) * (1 + d8))).map R),?_,fun ms e=>?_⟩
   ·simp only [i6,sIf,tB2,D3,N6,qN,c,B0,A9,A5,A7,A6,dC,as9,e9,g9,bi2,decide_eq_true t9,C6,xbs,xms,xg0,xg1,xw0,xw1,if_true,xft,if_false,mkD,List.map_map]
    rfl
   ·cases e
    refine ⟨by rw [List.length_map,List.length_range],fun r hr=>?_⟩
    obtain ⟨j,hj,rfl⟩:=List.mem_map.mp hr
    exact bd8 (hR j (by have:=List.mem_range.mp hj; omega)).2
  ·exact ⟨none,by (wp_walk using evD,i6,e9,bi2,decide_eq_false t9,mkD),fun ms e=>by cases e⟩
 have s9 : ac1 [‹scr ns›,‹.int at'›,some (.val nm),‹.str m.s›,‹fr s›,‹.bool (decide (0 < d3))›,‹.str m1.s›,‹.int ((1 + d7 : Nat) : Int)›,‹.int ((1 + d8 : Nat) : Int)›,‹mkD mk›,none,none,none] = some (.nx [‹scr ns›,‹.int at'›,some (.val nm),‹.str m.s›,‹fr s›,‹.bool (decide (0 < d3))›,‹.str m1.s›,‹.int ((1 + d7 : Nat) : Int)›,‹.int ((1 + d8 : Nat) : Int)›,‹mkD mk›,‹.int ((d10 : Int) - 1)›,none,none]):=by
  wp_walk using evD,ac1,e10
 have s10 : v4 [‹scr ns›,‹.int at'›,some (.val nm),‹.str m.s›,‹fr s›,‹.bool (decide (0 < d3))›,‹.str m1.s›,‹.int ((1 + d7 : Nat) : Int)›,‹.int ((1 + d8 : Nat) : Int)›,‹mkD mk›,‹.int ((d10 : Int) - 1)›,none,none] = some (.nx [‹scr ns›,‹.int at'›,some (.val nm),‹.str m.s›,‹fr s›,‹.bool (decide (0 < d3))›,‹.str m1.s›,‹.int ((1 + d7 : Nat) : Int)›,‹.int ((1 + d8 : Nat) : Int)›,‹mkD mk›,‹.int ((d10 : Int) - 1)›,‹.int ((d11 : Int) - 1)›,none]):=by
  wp_walk using evD,v4,e11
 obtain ⟨w,h,lf,tp,mk',s11,hw,hh,hmk',hof⟩ : ∃ (w h : Nat) (lf tp : Int) (mk' : Option (List Rat)),W6 [‹scr ns›,‹.int at'›,some (.val nm),‹.str m.s›,‹fr s›,‹.bool (decide (0 < d3))›,‹.str m1.s›,‹.int ((1 + d7 : Nat) : Int)›,‹.int ((1 + d8 : Nat) : Int)›,‹mkD mk›,‹.int ((d10 : Int) - 1)›,‹.int ((d11 : Int) - 1)›,none] = some (.nx [‹scr ns›,‹.int at'›,some (.val nm),‹.str m.s›,‹fr s›,‹.bool (decide (0 < d3))›,‹.str m1.s›,‹.int (w : Nat)›,‹.int (h : Nat)›,‹mkD mk'›,‹.int lf›,‹.int tp›,none]) ∧ (1 ≤ w ∧ w ≤ 3) ∧ (1 ≤ h ∧ h ≤ 3) ∧ (∀ ms,mk' = some ms → ms.length = w * h ∧ ∀ r ∈ ms,Sr 4 r) ∧ (-2 ≤ lf ∧ lf ≤ 2 ∧ -2 ≤ tp ∧ tp ≤ 2):=by
  by_cases t12 : d12 = 0
  ·refine ⟨3,3,0,0,none,?_,by decide,by decide,(fun ms e=>by cases e),by decide⟩
   have l5 : ∀ a b c d e : D,([a,b,c,d,e] : List D).length = 5:=fun _ _ _ _ _=>rfl
   wp_walk using evD,W6,e12,bi2,decide_eq_true t12,l5,mkD
   rfl
  ·exact ⟨1 + d7,1 + d8,(d10 : Int) - 1,(d11 : Int) - 1,mk,by (wp_walk using evD,W6,e12,bi2,decide_eq_false t12),by omega,by omega,hmk,by omega⟩
 obtain ⟨l,el,S⟩:=bu7 ns hn (e:=(at' : Int) + 50) (at' + 50) w h (by omega) (by omega) hw.1 (by omega) hh.1 (by omega)
 have s12 : u9 [‹scr ns›,‹.int at'›,some (.val nm),‹.str m.s›,‹fr s›,‹.bool (decide (0 < d3))›,‹.str m1.s›,‹.int (w : Nat)›,‹.int (h : Nat)›,‹mkD mk'›,‹.int lf›,‹.int tp›,none] = some (.nx [‹scr ns›,‹.int at'›,some (.val nm),‹.str m.s›,‹fr s›,‹.bool (decide (0 < d3))›,‹.str m1.s›,‹.int (w : Nat)›,‹.int (h : Nat)›,‹mkD mk'›,‹.int lf›,‹.int tp›,‹shD w h l›]):=by
  wp_walk using evD,u9,el
 refine ⟨.layer nm m1 s (decide (0 < d3)) lf tp mk' w h l 32,?_,?_,rfl,Nat.le_refl _,rfl,by rw [Nd.near]; exact ⟨hof.1,hof.2.1,hof.2.2.1,hof.2.2.2,by decide,by omega,by omega,S.ok⟩⟩
 ·have s13 : u8 [‹scr ns›,‹.int at'›,some (.val nm),‹.str m.s›,‹fr s›,‹.bool (decide (0 < d3))›,‹.str m1.s›,‹.int (w : Nat)›,‹.int (h : Nat)›,‹mkD mk'›,‹.int lf›,‹.int tp›,‹shD w h l›] = some (.rt (.tuple [.str "layer", nm,.str m1.s,fr s,.bool (decide (0 < d3)),.int lf,.int tp,mkD mk',shD w h l])):=by
   wp_walk using evD,u8
  refine B2 (ρ:=[‹scr ns›,‹.int at'›,some (.val nm),‹.str m.s›,none,none,none,none,none,none,none,none,none]) rfl ?_
  unfold aA7
  rw [B7 s0,B7 s1,B7 s2,B7 s3,B7 s4,B7 s5,B7 s6,B7 s7,B7 s8,B7 s9,B7 s10,B7 s11,B7 s12,s13,Nd.d]
 ·rw [Nd.Ok]
  exact ⟨bd8 hs,⟨S.w1,S.w8,S.h1,S.h8,S.len,fun q hq=>(S.ok q hq).mono (by decide)⟩,fun q hq=>ct6 (S.ok q hq),hmk',by decide⟩
end Sh
namespace Sh
open PySem G L2
theorem T7 : ∀ l : List Nd,Nd.ds l = l.map Nd.d
 | []=>by rw [Nd.ds]; rfl
 | n :: r=>by rw [Nd.ds,T7 r]; rfl
theorem W7 : ∀ l : List Nd,Nd.Oks l ↔ ∀ n ∈ l,n.Ok
 | []=>by simp [Nd.Oks]
 | n :: r=>by simp [Nd.Oks,W7 r]
theorem W5 : ∀ a b : List Nd,Nd.wgs (a ++ b) = Nd.wgs a + Nd.wgs b
 | [],b=>by simp [Nd.wgs]
 | n :: a,b=>by rw [xca,Nd.wgs,Nd.wgs,W5 a b]; omega
theorem af3 : ∀ a b : List Nd,Nd.dps (a ++ b) = max (Nd.dps a) (Nd.dps b)
 | [],b=>by simp [Nd.dps]
 | n :: a,b=>by rw [xca,Nd.dps,Nd.dps,af3 a b]; omega
theorem bt1 : ∀ l : List Nd,(∀ n ∈ l,n.wg ≤ 40) → Nd.wgs l ≤ 40 * l.length
 | [],_=>by simp [Nd.wgs]
 | n :: l,h=>by
  have a:=h n (List.mem_cons_self ..)
  have b:=bt1 l fun m hm=>h m (List.mem_cons_of_mem _ hm)
  rw [Nd.wgs,List.length_cons]; omega
theorem aT3 : ∀ l : List Nd,(∀ n ∈ l,n.dp = 0) → Nd.dps l = 0
 | [],_=>by simp [Nd.dps]
 | n :: l,h=>by
  have a:=h n (List.mem_cons_self ..)
  have b:=aT3 l fun m hm=>h m (List.mem_cons_of_mem _ hm)
  rw [Nd.dps]; omega
mutual
def Nd.nms : Nd → List D
 | .layer nm _ _ _ _ _ _ _ _ _ _=>[nm]
 | .tone nm _ _ _=>[nm]
 | .group nm _ _ _ ns=>nm :: Nd.nmss ns
def Nd.nmss : List Nd → List D
 | []=>[]
 | n :: r=>n.nms ++ Nd.nmss r
end
theorem M1 : ∀ a b : List Nd,Nd.nmss (a ++ b) = Nd.nmss a ++ Nd.nmss b
 | [],b=>by simp [Nd.nmss]
 | n :: a,b=>by rw [xca,Nd.nmss,Nd.nmss,M1 a b,List.append_assoc]
mutual
def Nd.thin : Nd → Prop
 | .layer ..=>True
 | .tone ..=>True
 | .group _ _ _ _ ns=>ns.length ≤ 1000 ∧ Nd.thins ns
def Nd.thins : List Nd → Prop
 | []=>True
 | n :: r=>n.thin ∧ Nd.thins r
end
theorem o0 : ∀ l : List Nd,Nd.thins l ↔ ∀ n ∈ l,n.thin
 | []=>by simp [Nd.thins]
 | n :: r=>by simp [Nd.thins,o0 r]
def au4 (l : List Nd) (a c : Nat) (g : List Nd → Nd) : List Nd:=l.take a ++ [g ((l.drop a).take (c - a))] ++ l.drop c
theorem bZ7 (l : List Nd) {a c : Nat} (h : a ≤ c) : l.take a ++ (l.drop a).take (c - a) ++ l.drop c = l:=by
 have e : l.drop c = (l.drop a).drop (c - a):=by rw [List.drop_drop]; congr 1; omega
 rw [e,List.append_assoc,List.take_append_drop,List.take_append_drop]
theorem bP9 {ds : List D} {a b : Nat} (ha : a ≤ ds.length) : P5 ds (some (a : Int)) (some (b : Int)) = (ds.drop a).take (min b ds.length - a) ∧ ∀ es : List D,aw4 ds (some (a : Int)) (some (b : Int)) es = ds.take a ++ es ++ ds.drop (max a (min b ds.length)):=by
 have h1 : HT.sIx ds.length 0 (some (a : Int)) = a:=by rw [HT.sIx_nat]; omega
 have h2 : HT.sIx ds.length ds.length (some (b : Int)) = min b ds.length:=HT.sIx_nat ..
 refine ⟨?_,fun es=>?_⟩
 ·unfold P5; rw [h1,h2]
 ·unfold aw4; rw [h1,h2]
theorem bD1 (ns : List Int) (hn : ns.length ≤ 63) (at' most k : Nat) (ha : at' < 2 ^ 18) (hk : k < 2) (hmost : most ≤ 6) (N : List D) (hN : most + 2 ≤ N.length) (m : Man) (l : List Nd) (hl : l.length ≤ 100) (a5 a8 a9 a10 a11 a12 : Option B) :
  ∃ (a c : Nat) (nm : D) (m' : Man) (s : Rat) (sh : Bool) (b8 b9 b10 b11 b12 : Option B),bg7 [‹scr ns›,‹.int at'›,‹.int most›,‹.list N›,‹.str m.s›,a5,some (.own (Nd.ds l)),‹.int k›,a8,a9,a10,a11,a12] = some (.nx [‹scr ns›,‹.int at'›,‹.int most›,‹.list N›,‹.str m.s›,a5,some (.own (Nd.ds (au4 l a c (Nd.group nm m' s sh)))),‹.int k›,b8,b9,b10,b11,b12]) ∧ a ≤ c ∧ c ≤ l.length ∧ IsSh 4 s ∧ nm = N.getD (most + k) .none:=by
 have m5 : G3 (.int 5) (.int k) = some (.int ((5 * k : Nat) : Int)):=R3 (i:=5) (by decide) (by omega)
 have hds : (Nd.ds l).length = l.length:=by rw [T7,List.length_map]
 obtain ⟨f,ef,lf⟩:=G6 ns hn (e:=(at' : Int) + 3 + ((5 * k : Nat) : Int)) (m':=(((Nd.ds l).length : Nat) : Int) + 1) (at' + 3 + 5 * k) (l.length + 1) (by omega) (by rw [hds]; omega) (by omega) (by omega)
 obtain ⟨d,ed,ld⟩:=G6 ns hn (e:=(at' : Int) + 4 + ((5 * k : Nat) : Int)) (m':=3) (at' + 4 + 5 * k) 3 (by omega) rfl (by omega) (by decide)
 obtain ⟨s0,es0,hs0⟩:=aO3 ns hn (e:=(at' : Int) + 5 + ((5 * k : Nat) : Int)) (at' + 5 + 5 * k) (by omega) (by omega)
 obtain ⟨d6,e6,l6⟩:=G6 ns hn (e:=(at' : Int) + 6 + ((5 * k : Nat) : Int)) (m':=2) (at' + 6 + 5 * k) 2 (by omega) rfl (by omega) (by decide)
 obtain ⟨d7,e7,l7⟩:=G6 ns hn (e:=(at' : Int) + 7 + ((5 * k : Nat) : Int)) (m':=4) (at' + 7 + 5 * k) 4 (by omega) rfl (by omega) (by decide)
 obtain ⟨d14,e14,l14⟩:=G6 ns hn (e:=(at' : Int) + 14 + (k : Int)) (m':=7) (at' + 14 + k) 7 (by omega) rfl (by omega) (by decide)
 obtain ⟨m',em'⟩:=cr4 m d7 l7
 obtain ⟨s,est,hs⟩ : ∃ s : Rat,atI ([.tuple [.int 1,.int 1],fr s0] : List D) (d6 : Int) = some (fr s) ∧ IsSh 4 s:=by
  rcases (show d6 = 0 ∨ d6 = 1 by omega) with rfl | rfl
  ·exact ⟨1,rfl,Bd.one.mono (by decide),Rat.le_refl⟩
  ·exact ⟨s0,rfl,hs0⟩
 obtain ⟨nm,enm,hnm⟩ : ∃ nm,atI N ((most : Int) + (k : Int)) = some nm ∧ nm = N.getD (most + k) .none:=by
  unfold atI
  rw [aZ0 (by omega) (by omega),xbs]
  have h' : ((most : Int) + (k : Int)).toNat = most + k:=by omega
  rw [h']
  exact ⟨N[most + k]'(by omega),List.getElem?_eq_getElem (by omega),by rw [List.getD_eq_getElem?_getD,List.getElem?_eq_getElem (by omega)]; rfl⟩
 refine ⟨f,max f (min (f + d) l.length),nm,m',s,decide (0 < d14),?_⟩
 have s0 : gb0 [‹scr ns›,‹.int at'›,‹.int most›,‹.list N›,‹.str m.s›,a5,some (.own (Nd.ds l)),‹.int k›,a8,a9,a10,a11,a12] = some (.nx [‹scr ns›,‹.int at'›,‹.int most›,‹.list N›,‹.str m.s›,a5,some (.own (Nd.ds l)),‹.int k›,‹.int f›,a9,a10,a11,a12]):=by
  wp_walk using evD,gb0,m5,ef
 have fd : (f : Int) + (d : Int) = ((f + d : Nat) : Int):=by omega
 have s1 : gb1 [‹scr ns›,‹.int at'›,‹.int most›,‹.list N›,‹.str m.s›,a5,some (.own (Nd.ds l)),‹.int k›,‹.int f›,a9,a10,a11,a12] = some (.nx [‹scr ns›,‹.int at'›,‹.int most›,‹.list N›,‹.str m.s›,a5,some (.own (Nd.ds l)),‹.int k›,‹.int f›,‹.int ((f + d : Nat) : Int)›,a10,a11,a12]):=by
  wp_walk using evD,gb1,m5,ed,fd
 have s2 : gb2 [‹scr ns›,‹.int at'›,‹.int most›,‹.list N›,‹.str m.s›,a5,some (.own (Nd.ds l)),‹.int k›,‹.int f›,‹.int ((f + d : Nat) : Int)›,a10,a11,a12] = some (.nx [‹scr ns›,‹.int at'›,‹.int most›,‹.list N›,‹.str m.s›,a5,some (.own (Nd.ds l)),‹.int k›,‹.int f›,‹.int ((f + d : Nat) : Int)›,‹fr s›,a11,a12]):=by
  wp_walk using evD,gb2,m5,es0,e6,est
 have s3 : gb3 [‹scr ns›,‹.int at'›,‹.int most›,‹.list N›,‹.str m.s›,a5,some (.own (Nd.ds l)),‹.int k›,‹.int f›,‹.int ((f + d : Nat) : Int)›,‹fr s›,a11,a12] = some (.nx [‹scr ns›,‹.int at'›,‹.int most›,‹.list N›,‹.str m.s›,a5,some (.own (Nd.ds l)),‹.int k›,‹.int f›,‹.int ((f + d : Nat) : Int)›,‹fr s›,‹.str m'.s›,a12]):=by
  wp_walk using evD,gb3,m5,e7,em'
 have s4 : gb4 [‹scr ns›,‹.int at'›,‹.int most›,‹.list N›,‹.str m.s›,a5,some (.own (Nd.ds l)),‹.int k›,‹.int f›,‹.int ((f + d : Nat) : Int)›,‹fr s›,‹.str m'.s›,a12] = some (.nx [‹scr ns›,‹.int at'›,‹.int most›,‹.list N›,‹.str m.s›,a5,some (.own (Nd.ds l)),‹.int k›,‹.int f›,‹.int ((f + d : Nat) : Int)›,‹fr s›,‹.str m'.s›,‹.tuple [.str "group", nm,.str m'.s,fr s,.bool (decide (0 < d14))]›]):=by
  wp_walk using evD,gb4,enm,e14,bG1
 obtain ⟨q1,q2⟩:=bP9 (ds:=Nd.ds l) (a:=f) (b:=f + d) (by omega)
 have mid : ((Nd.ds l).drop f).take (min (f + d) (Nd.ds l).length - f) = Nd.ds ((l.drop f).take (max f (min (f + d) l.length) - f)):=by
  rw [hds,T7,T7,← List.map_drop,← List.map_take]
  congr 2; omega
 have s5 : gb5 [‹scr ns›,‹.int at'›,‹.int most›,‹.list N›,‹.str m.s›,a5,some (.own (Nd.ds l)),‹.int k›,‹.int f›,‹.int ((f + d : Nat) : Int)›,‹fr s›,‹.str m'.s›,‹.tuple [.str "group", nm,.str m'.s,fr s,.bool (decide (0 < d14))]›] = some (.nx [‹scr ns›,‹.int at'›,‹.int most›,‹.list N›,‹.str m.s›,a5,some (.own (Nd.ds (au4 l f (max f (min (f + d) l.length)) (Nd.group nm m' s (decide (0 < d14)))))),‹.int k›,‹.int f›,‹.int ((f + d : Nat) : Int)›,‹fr s›,‹.str m'.s›,‹.tuple [.str "group", nm,.str m'.s,fr s,.bool (decide (0 < d14))]›]):=by
  have x1 : bp6 (B1 6) (E3 (A6 8)) (E3 (A6 9)) [‹scr ns›,‹.int at'›,‹.int most›,‹.list N›,‹.str m.s›,a5,some (.own (Nd.ds l)),‹.int k›,‹.int f›,‹.int ((f + d : Nat) : Int)›,‹fr s›,‹.str m'.s›,‹.tuple [.str "group", nm,.str m'.s,fr s,.bool (decide (0 < d14))]›] = some (.list (Nd.ds ((l.drop f).take (max f (min (f + d) l.length) - f)))):=by
   rw [← mid,← q1]; rfl
  have x2 : (A5 (B0 C5 (A6 12) (C2 (A5 (N6 (qE (bp6 (B1 6) (E3 (A6 8)) (E3 (A6 9))))) A7))) A7) [‹scr ns›,‹.int at'›,‹.int most›,‹.list N›,‹.str m.s›,a5,some (.own (Nd.ds l)),‹.int k›,‹.int f›,‹.int ((f + d : Nat) : Int)›,‹fr s›,‹.str m'.s›,‹.tuple [.str "group", nm,.str m'.s,fr s,.bool (decide (0 < d14))]›] = some [Nd.d (Nd.group nm m' s (decide (0 < d14)) ((l.drop f).take (max f (min (f + d) l.length) - f)))]:=by
   have cc : ∀ a b c d e g : D,C5 (.tuple [a,b,c,d,e]) (.tuple [g]) = some (.tuple [a,b,c,d,e,g]):=fun _ _ _ _ _ _=>rfl
   simp only [A5,A7,B0,C2,N6,qE,x1,Y6,A6,xbs,xms,xg0,xg1,xft,if_false,cc,Nd.d]
  have sz : (Nd.ds l).length + 1 ≤ 16777216:=by omega
  have fin : aw4 (Nd.ds l) (some (f : Int)) (some ((f + d : Nat) : Int)) [Nd.d (Nd.group nm m' s (decide (0 < d14)) ((l.drop f).take (max f (min (f + d) l.length) - f)))] = Nd.ds (au4 l f (max f (min (f + d) l.length)) (Nd.group nm m' s (decide (0 < d14)))):=by
   rw [q2,hds]
   unfold au4
   rw [T7,T7,List.map_append,List.map_append,List.map_take,List.map_drop]
   rfl
  rw [← fin]
  unfold gb5 bu9
  rw [x2,xbs]
  show (if (Nd.ds l).length + 1 ≤ 16777216 then some (Fl.nx _) else none) = _
  rw [if_pos sz]
  rfl
 refine ⟨‹.int f›,‹.int ((f + d : Nat) : Int)›,‹fr s›,‹.str m'.s›,‹.tuple [.str "group", nm,.str m'.s,fr s,.bool (decide (0 < d14))]›,?_,by omega,by omega,hs,hnm⟩
 unfold bg7
 rw [B7 s0,B7 s1,B7 s2,B7 s3,B7 s4,s5]
structure NOk (N : List D) (i : Nat) (most : Nat) (l : List Nd) : Prop where
 ok : Nd.Oks l
 wg : Nd.wgs l ≤ 40 * most + 5 * i
 dp : Nd.dps l ≤ i
 len : l.length ≤ most + i
 th : Nd.thins l
 nr : Nd.nears l
 ix : ∃ is : List Nat,Nd.nmss l = is.map (fun j=>N.getD j .none) ∧ is.Nodup ∧ ∀ j ∈ is,j < most + i
theorem NOk.grp {N : List D} {i most : Nat} {l : List Nd} (h : NOk N i most l) {a c : Nat} {nm : D} {m : Man} {s : Rat} {sh : Bool} (ac : a ≤ c) (hs : IsSh 4 s) (hnm : nm = N.getD (most + i) .none) (h100 : l.length ≤ 100) : NOk N (i + 1) most (au4 l a c (Nd.group nm m s sh)):=by
 have e:=bZ7 l ac
 have w1:=congrArg Nd.wgs e
 have w2:=congrArg Nd.dps e
 rw [W5,W5] at w1
 rw [af3,af3] at w2
 have hw:=h.wg
 have hd:=h.dp
 refine ⟨?_,?_,?_,?_,?_,?_,?_⟩
 ·rw [W7]
  have ok:=(W7 l).mp h.ok
  intro n hn
  unfold au4 at hn
  rcases List.mem_append.mp hn with hn | hn
  ·rcases List.mem_append.mp hn with hn | hn
   ·exact ok n (List.mem_of_mem_take hn)
   ·rw [List.mem_singleton.mp hn]
    rw [Nd.Ok]
    exact ⟨bd8 hs,(W7 _).mpr fun n' hn'=>ok n' (List.mem_of_mem_drop (List.mem_of_mem_take hn'))⟩
  ·exact ok n (List.mem_of_mem_drop hn)
 ·unfold au4
  rw [W5,W5]
  simp only [Nd.wgs,Nd.wg]
  omega
 ·unfold au4
  rw [af3,af3]
  simp only [Nd.dps,Nd.dp]
  omega
 ·unfold au4
  rw [List.length_append,List.length_append,List.length_take,List.length_drop,List.length_singleton]
  have:=h.len
  omega
 ·rw [o0]
  have th:=(o0 l).mp h.th
  intro n hn
  unfold au4 at hn
  rcases List.mem_append.mp hn with hn | hn
  ·rcases List.mem_append.mp hn with hn | hn
   ·exact th n (List.mem_of_mem_take hn)
   ·rw [List.mem_singleton.mp hn,Nd.thin]
    exact ⟨Nat.le_trans (List.length_take_le' ..) (by rw [List.length_drop]; omega),(o0 _).mpr fun n' hn'=>th n' (List.mem_of_mem_drop (List.mem_of_mem_take hn'))⟩
  ·exact th n (List.mem_of_mem_drop hn)
 ·rw [Q6]
  have th:=(Q6 l).mp h.nr
  intro n hn
  unfold au4 at hn
  rcases List.mem_append.mp hn with hn | hn
  ·rcases List.mem_append.mp hn with hn | hn
   ·exact th n (List.mem_of_mem_take hn)
   ·rw [List.mem_singleton.mp hn,Nd.near]
    exact (Q6 _).mpr fun n' hn'=>th n' (List.mem_of_mem_drop (List.mem_of_mem_take hn'))
  ·exact th n (List.mem_of_mem_drop hn)
 ·obtain ⟨is,e1,e2,e3⟩:=h.ix
  have w3:=congrArg Nd.nmss e
  rw [M1,M1,e1] at w3
  obtain ⟨i12,i3,q1,q2,q3⟩:=List.map_eq_append_iff.mp w3.symm
  obtain ⟨i1,i2,p1,p2,p3⟩:=List.map_eq_append_iff.mp q2
  subst p1 q1
  refine ⟨i1 ++ ((most + i) :: i2) ++ i3,?_,?_,?_⟩
  ·unfold au4
   rw [M1,M1,← q3,← p2]
   simp only [Nd.nmss,Nd.nms,List.append_nil,List.map_append,xmc,p3,hnm]
  ·have pm : (i1 ++ ((most + i) :: i2) ++ i3).Perm ((most + i) :: (i1 ++ i2 ++ i3)):=by
    rw [List.append_assoc,xca,List.append_assoc i1 i2 i3]
    exact List.perm_middle
   rw [pm.nodup_iff,List.nodup_cons]
   exact ⟨fun z=>by have:=e3 _ z; omega,e2⟩
  ·intro j hj
   have : j = most + i ∨ j ∈ i1 ++ i2 ++ i3:=by
    simp only [List.mem_append,List.mem_cons] at hj ⊢
    rcases hj with (h | h | h) | h
    ·exact .inr (.inl (.inl h))
    ·exact .inl h
    ·exact .inr (.inl (.inr h))
    ·exact .inr (.inr h)
   rcases this with rfl | h
   ·omega
   ·have:=e3 j h; omega
theorem bx9 (ns : List Int) (hn : ns.length ≤ 63) (at' most : Nat) (ha : at' < 2 ^ 18) (hmost : most ≤ 6) (N : List D) (hN : most + 2 ≤ N.length) : ∃ l : List Nd,ah9 [scr ns,.int at',.int most,.list N] = some (.tuple (Nd.ds l)) ∧ NOk N 2 most l:=by
 obtain ⟨d0,e0,l0⟩:=G6 ns hn (e:=(at' : Int)) (m':=4) at' 4 rfl rfl (by omega) (by decide)
 obtain ⟨d1,e1,l1⟩:=G6 ns hn (e:=(at' : Int) + 1) (m':=(most : Int) + 1) (at' + 1) (most + 1) (by omega) (by omega) (by omega) (by omega)
 obtain ⟨d2,e2,l2⟩:=G6 ns hn (e:=(at' : Int) + 2) (m':=3) (at' + 2) 3 (by omega) rfl (by omega) (by decide)
 obtain ⟨m,em⟩:=cw8 d0 l0
 have P : ∀ j,j < d1 → ∃ n : Nd,A9 c7 (A5 (A6 1) (A5 (B0 C5 (B0 C5 (A6 4) (dC (.int 20))) (B0 G3 (dC (.int 170)) (A6 0))) (A5 (dIx (B1 3) (A6 0)) (A5 (A6 2) A7)))) [‹.int (j : Nat)›,‹scr ns›,‹.str m.s›,‹.list N›,‹.int at'›] = some n.d ∧ n.Ok ∧ n.dp = 0 ∧ n.wg ≤ 40 ∧ n.nm = N.getD j .none ∧ n.near:=fun j hj=>by
  have m170 : G3 (.int 170) (.int j) = some (.int ((170 * j : Nat) : Int)):=R3 (i:=170) (by decide) (by omega)
  have en : atI N (j : Int) = some (N[j]'(by omega)):=by
   unfold atI
   rw [aZ0 (by omega) (by omega),xbs,Int.toNat_natCast]
   exact List.getElem?_eq_getElem (by omega)
  obtain ⟨n,en',hn'⟩:=bL9 ns hn (at' + 20 + 170 * j) (by omega) (N[j]'(by omega)) m
  have ei : (at' : Int) + 20 + ((170 * j : Nat) : Int) = ((at' + 20 + 170 * j : Nat) : Int):=by omega
  refine ⟨n,?_,hn'.1,hn'.2.1,hn'.2.2.1,by rw [hn'.2.2.2.1,List.getD_eq_getElem?_getD,List.getElem?_eq_getElem (by omega)]; rfl,hn'.2.2.2.2⟩
  wp_walk using evD,m170,en,ei,en'
 obtain ⟨f,hf⟩:=aS1 (x:=Nd.tone .none .turn 0 true) P
 have g0 : gn0 [‹scr ns›,‹.int at'›,‹.int most›,‹.list N›,none,none,none,none,none,none,none,none,none] = some (.nx [‹scr ns›,‹.int at'›,‹.int most›,‹.list N›,‹.str m.s›,none,none,none,none,none,none,none,none]):=by
  wp_walk using evD,gn0,e0,em
 have g1 : gn1 [‹scr ns›,‹.int at'›,‹.int most›,‹.list N›,‹.str m.s›,none,none,none,none,none,none,none,none] = some (.nx [‹scr ns›,‹.int at'›,‹.int most›,‹.list N›,‹.str m.s›,‹.int d1›,none,none,none,none,none,none,none]):=by
  wp_walk using evD,gn1,e1
 have g2 : gn2 [‹scr ns›,‹.int at'›,‹.int most›,‹.list N›,‹.str m.s›,‹.int d1›,none,none,none,none,none,none,none] = some (.nx [‹scr ns›,‹.int at'›,‹.int most›,‹.list N›,‹.str m.s›,‹.int d1›,some (.own (Nd.ds ((List.range d1).map f))),none,none,none,none,none,none]):=by
  have c : D2 1 [0,4,3,1] (K0 (A6 5)) (C9 0) F7 (A9 c7 (A5 (A6 1) (A5 (B0 C5 (B0 C5 (A6 4) (dC (.int 20))) (B0 G3 (dC (.int 170)) (A6 0))) (A5 (dIx (B1 3) (A6 0)) (A5 (A6 2) A7))))) [‹scr ns›,‹.int at'›,‹.int most›,‹.list N›,‹.str m.s›,‹.int d1›,none,none,none,none,none,none,none] = some ((List.range d1).map fun j=>(f j).d) :=
   y9 (l:=List.range d1) (h:=fun j : Nat=>PyData.int j) (r:=[‹scr ns›,‹.str m.s›,‹.list N›,‹.int at'›]) rfl (y6 (n:=d1) rfl (by omega)) (by rw [List.length_range]; omega) fun j hj=>(hf j (List.mem_range.mp hj)).1
  unfold gn2 U4
  rw [c,T7,List.map_map]
  rfl
 have o7 : NOk N 0 most ((List.range d1).map f):=by
  refine ⟨(W7 _).mpr fun n h=>?_,?_,?_,?_,(o0 _).mpr fun n h=>?_,(Q6 _).mpr fun n h=>?_,List.range d1,?_,List.nodup_range,fun j hj=>by have:=List.mem_range.mp hj; omega⟩
  ·obtain ⟨j,hj,rfl⟩:=List.mem_map.mp h
   exact (hf j (List.mem_range.mp hj)).2.1
  ·have:=bt1 ((List.range d1).map f) fun n h=>by
    obtain ⟨j,hj,rfl⟩:=List.mem_map.mp h
    exact (hf j (List.mem_range.mp hj)).2.2.2.1
   rw [List.length_map,List.length_range] at this
   omega
  ·rw [aT3 _ fun n h=>by
    obtain ⟨j,hj,rfl⟩:=List.mem_map.mp h
    exact (hf j (List.mem_range.mp hj)).2.2.1]
   exact Nat.le_refl _
  ·rw [List.length_map,List.length_range]; omega
  ·obtain ⟨j,hj,rfl⟩:=List.mem_map.mp h
   have:=(hf j (List.mem_range.mp hj)).2.2.1
   cases q : f j with
   | group=>rw [q,Nd.dp] at this; omega
   | layer=>rw [Nd.thin]; trivial
   | tone=>rw [Nd.thin]; trivial
  ·obtain ⟨j,hj,rfl⟩:=List.mem_map.mp h
   exact (hf j (List.mem_range.mp hj)).2.2.2.2.2
  ·have key : ∀ is : List Nat,(∀ j ∈ is,j < d1) → Nd.nmss (is.map f) = is.map fun j=>N.getD j .none:=by
    intro is
    induction is with
    | nil=>intro _; simp [Nd.nmss]
    | cons j is ih =>
     intro hj
     have a:=hf j (hj j (List.mem_cons_self ..))
     rw [xmc,Nd.nmss,ih fun i hi=>hj i (List.mem_cons_of_mem _ hi),xmc,← a.2.2.2.2.1]
     cases q : f j with
     | group=>have:=a.2.2.1; rw [q,Nd.dp] at this; omega
     | layer=>simp [Nd.nms,Nd.nm]
     | tone=>simp [Nd.nms,Nd.nm]
   exact key _ fun j hj=>List.mem_range.mp hj
 obtain ⟨ρ',e3,l,b7,b8,b9,b10,b11,b12,hρ,hl⟩:=Z0 (g:=C9 7) (f:=bg7) (h:=fun j : Nat=>PyData.int j) (I:=fun i ρ=>∃ (l : List Nd) (b7 b8 b9 b10 b11 b12 : Option B),ρ = [‹scr ns›,‹.int at'›,‹.int most›,‹.list N›,‹.str m.s›,‹.int d1›,some (.own (Nd.ds l)),b7,b8,b9,b10,b11,b12] ∧ NOk N i most l) (List.range d2) 0 [‹scr ns›,‹.int at'›,‹.int most›,‹.list N›,‹.str m.s›,‹.int d1›,some (.own (Nd.ds ((List.range d1).map f))),none,none,none,none,none,none] ⟨_,_,_,_,_,_,_,rfl,o7⟩ (fun j a hj ρ hρ=>by
  obtain ⟨l,b7,b8,b9,b10,b11,b12,rfl,hl⟩:=hρ
  obtain ⟨hj1,hj2⟩:=List.getElem?_eq_some_iff.mp hj
  rw [List.length_range] at hj1
  rw [List.getElem_range] at hj2
  subst hj2
  refine ⟨_,rfl,?_⟩
  simp only [xw0,xw1]
  have hll:=hl.len
  obtain ⟨a,c,nm,m',s,sh,c8,c9,c10,c11,c12,eb,ac,cl,hs,hnm⟩:=bD1 ns hn at' most j ha (by omega) hmost N hN m l (by omega) (‹.int d1›) b8 b9 b10 b11 b12
  exact ⟨_,eb,_,_,_,_,_,_,_,rfl,hl.grp ac hs (by rw [hnm,Nat.zero_add]) (by omega)⟩)
 subst hρ
 rw [List.length_range,Nat.zero_add] at hl
 refine ⟨l,?_,hl.ok,by have:=hl.wg; omega,by have:=hl.dp; omega,by have:=hl.len; omega,hl.th,hl.nr,by
  obtain ⟨is,q1,q2,q3⟩:=hl.ix
  exact ⟨is,q1,q2,fun j hj=>by have:=q3 j hj; omega⟩⟩
 have rn : K0 (A9 B3 (A5 (A6 0) (A5 (B0 C5 (A6 1) (dC (.int 2))) (A5 (dC (.int 3)) A7)))) [‹scr ns›,‹.int at'›,‹.int most›,‹.list N›,‹.str m.s›,‹.int d1›,some (.own (Nd.ds ((List.range d1).map f))),none,none,none,none,none,none] = _:=y6 (n:=d2) (by wp_walk using evD,e2) (by omega)
 have g3 : gn3 [‹scr ns›,‹.int at'›,‹.int most›,‹.list N›,‹.str m.s›,‹.int d1›,some (.own (Nd.ds ((List.range d1).map f))),none,none,none,none,none,none] = some (.nx [‹scr ns›,‹.int at'›,‹.int most›,‹.list N›,‹.str m.s›,‹.int d1›,some (.own (Nd.ds l)),b7,b8,b9,b10,b11,b12]):=by
  unfold gn3 W3
  rw [rn]
  exact e3
 have g4 : gn4 [‹scr ns›,‹.int at'›,‹.int most›,‹.list N›,‹.str m.s›,‹.int d1›,some (.own (Nd.ds l)),b7,b8,b9,b10,b11,b12] = some (.rt (.tuple (Nd.ds l))):=rfl
 refine B2 (ρ:=[‹scr ns›,‹.int at'›,‹.int most›,‹.list N›,none,none,none,none,none,none,none,none,none]) rfl ?_
 rw [bC3,B7 g0,B7 g1,B7 g2,B7 g3]
 exact g4
def K5 (w h : Nat) (l : List Nd) : D:=.tuple [.int w,.int h,.tuple (Nd.ds l)]
theorem aX4 (ns : List Int) (hn : ns.length ≤ 63) (at' most : Nat) (ha : at' < 2 ^ 17) (hmost : most ≤ 6) (N : List D) (hN : most + 2 ≤ N.length) : ∃ (w h : Nat) (l : List Nd),V9 [scr ns,.int at',.int most,.list N] = some (K5 w h l) ∧ NOk N 2 most l ∧ (1 ≤ w ∧ w ≤ 3) ∧ (1 ≤ h ∧ h ≤ 3):=by
 obtain ⟨d0,e0,l0⟩:=G6 ns hn (e:=(at' : Int)) (m':=3) at' 3 rfl rfl (by omega) (by decide)
 obtain ⟨d1,e1,l1⟩:=G6 ns hn (e:=(at' : Int) + 1) (m':=3) (at' + 1) 3 (by omega) rfl (by omega) (by decide)
 obtain ⟨l,el,hl⟩:=bx9 ns hn (at' + 2) most (by omega) hmost N hN
 have e2 : (at' : Int) + 2 = ((at' + 2 : Nat) : Int):=by omega
 refine ⟨1 + d0,1 + d1,l,?_,hl,by omega,by omega⟩
 refine B2 (ρ:=[‹scr ns›,‹.int at'›,‹.int most›,‹.list N›,none,none]) rfl ?_
 wp_walk using evD,au0,e0,e1,ad1,e2,el,K5
end Sh
namespace Sh
open PySem G L2
theorem name_of (n : Nd) : M0 [n.d] = some n.nm:=by
 cases n <;> (rw [Nd.d]; rfl)
theorem aR5 (n : Nd) : M8 [n.d] = some (.bool (match n with | .group ..=>true | _=>false)):=by
 have e_tg : eqD (.str "tone") (.str "group") = some (.bool false):=O3 (by decide +kernel) (by decide +kernel) (by decide +kernel)
 cases n with
 | layer nm m s sh lf tp mk w h l kb=>rw [Nd.d]; exact B2 (ρ:=[‹.tuple [.str "layer", nm,.str m.s,fr s,.bool sh,.int lf,.int tp,mkD mk,shD w h l]›]) rfl (congrArg (Option.map Fl.rt) ct3)
 | tone nm r s sh=>rw [Nd.d]; exact B2 (ρ:=[‹.tuple [.str "tone", nm,.str r.s,fr s,.bool sh]›]) rfl (congrArg (Option.map Fl.rt) e_tg)
 | group nm m s sh ns=>rw [Nd.d]; exact B2 (ρ:=[‹.tuple [.str "group", nm,.str m.s,fr s,.bool sh,.tuple (Nd.ds ns)]›]) rfl (congrArg (Option.map Fl.rt) ct5)
theorem j0 {l : List Nd} {n : Nd} (h : n ∈ l) : n.dp ≤ Nd.dps l:=by
 obtain ⟨a,b,rfl⟩:=List.append_of_mem h
 rw [af3,Nd.dps]; omega
inductive Stands (a : List Nd) (n : Nd) (b : List Nd) : List Nd → Prop
 | top : Stands a n b (a ++ n :: b)
 | deep {c e : List Nd} {nm : D} {m : Man} {s : Rat} {sh : Bool} {ns : List Nd} : Stands a n b ns → Stands a n b (c ++ .group nm m s sh ns :: e)
theorem Stands.nm {a : List Nd} {n : Nd} {b l : List Nd} (h : Stands a n b l) : ∀ d ∈ n.nms,d ∈ Nd.nmss l:=by
 induction h with
 | top=>intro d hd; rw [M1,Nd.nmss]; simp [hd]
 | deep _ ih=>intro d hd; rw [M1,Nd.nmss,Nd.nms]; simp [ih d hd]
end Sh
namespace Sh
open PySem G L2
end Sh
namespace Sh
open PySem G L2
def alb (f : Nat) : DS:=(B4 (T1 1 (A6 2)) (sIf (tB2 eqD (dIx (B1 2) (dC (.int 0))) (dC (.str "group"))) (U4 1 (aB7 (B1 1) (qE (A9 (G7 f) (A5 (dIx (B1 2) (dC (.int 5))) A7))))) C7))
theorem e_tg : eqD (.str "tone") (.str "group") = some (.bool false):=O3 (by decide +kernel) (by decide +kernel) (by decide +kernel)
theorem aU9 {n : Nd} (f : Nat) (h : n.dp = 0) (a0 : Option B) (X : List D) (hX : X.length < 1000) : alb f [a0,some (.own X),some (.val n.d)] = some (.nx [a0,some (.own (X ++ [n.d])),some (.val n.d)]):=by
 have hx : X.length < 16777216:=by omega
 have s0 : (T1 1 (A6 2)) [a0,some (.own X),some (.val n.d)] = some (.nx [a0,some (.own (X ++ [n.d])),some (.val n.d)]):=by
  simp only [T1,xg0,xg1,if_pos hx,A6,xms,xw0,xw1]
 unfold alb
 rw [B7 s0]
 cases n with
 | group=>rw [Nd.dp] at h; omega
 | layer=>rw [Nd.d]; wp_walk using evD,ct9,ct3
 | tone=>rw [Nd.d]; wp_walk using evD,cu0,e_tg
theorem bs4 {nm : D} {m : Man} {s : Rat} {sh : Bool} {ns : List Nd} (f : Nat) (a0 : Option B) (X Y : List D) (hX : X.length < 1000) (hY : Y.length < 1000) (e : G7 f [.tuple (Nd.ds ns)] = some (.list Y)) : alb f [a0,some (.own X),‹Nd.d (.group nm m s sh ns)›] = some (.nx [a0,some (.own (X ++ [Nd.d (.group nm m s sh ns)] ++ Y)),‹Nd.d (.group nm m s sh ns)›]):=by
 have hx : X.length < 16777216:=by omega
 have s0 : (T1 1 (A6 2)) [a0,some (.own X),‹Nd.d (.group nm m s sh ns)›] = some (.nx [a0,some (.own (X ++ [Nd.d (.group nm m s sh ns)])),‹Nd.d (.group nm m s sh ns)›]):=by
  simp only [T1,xg0,xg1,if_pos hx,A6,xms,xw0,xw1]
 unfold alb
 rw [B7 s0]
 have hc : aB7 (B1 1) (qE (A9 (G7 f) (A5 (dIx (B1 2) (dC (.int 5))) A7))) [a0,some (.own (X ++ [Nd.d (.group nm m s sh ns)])),‹Nd.d (.group nm m s sh ns)›] = some (X ++ [Nd.d (.group nm m s sh ns)] ++ Y):=by
  have q2 : qE (A9 (G7 f) (A5 (dIx (B1 2) (dC (.int 5))) A7)) [a0,some (.own (X ++ [Nd.d (.group nm m s sh ns)])),‹Nd.d (.group nm m s sh ns)›] = some (false,Y):=by
   rw [show Nd.d (.group nm m s sh ns) = .tuple [.str "group", nm,.str m.s,fr s,.bool sh,.tuple (Nd.ds ns)] by rw [Nd.d]]
   wp_walk using evD,bT7,e
  unfold aB7
  rw [q2]
  show (if false = false ∧ false = false ∧ (X ++ [Nd.d (.group nm m s sh ns)]).length + Y.length ≤ 16777216 then some (X ++ [Nd.d (.group nm m s sh ns)] ++ Y) else none) = _
  rw [if_pos ⟨rfl,rfl,by rw [List.length_append]; show X.length + 1 + Y.length ≤ _; omega⟩]
 have ht : tB2 eqD (dIx (B1 2) (dC (.int 0))) (dC (.str "group")) [a0,some (.own (X ++ [Nd.d (.group nm m s sh ns)])),‹Nd.d (.group nm m s sh ns)›] = some true:=by
  rw [show Nd.d (.group nm m s sh ns) = .tuple [.str "group", nm,.str m.s,fr s,.bool sh,.tuple (Nd.ds ns)] by rw [Nd.d]]
  wp_walk using evD,bT8,ct5
 simp only [sIf,ht,xbs,if_true,U4,hc,xms,xw0,xw1]
theorem bt2 (n : Nd) : 1 ≤ n.wg:=by
 cases n <;> (rw [Nd.wg]; omega)
theorem cl6 : ∀ (k : Nat) (l : List Nd) (f : Nat),Nd.dps l ≤ k → k + 1 ≤ f → Nd.wgs l ≤ 900 → ∃ X : List D,G7 f [.tuple (Nd.ds l)] = some (.list X) ∧ X.length ≤ Nd.wgs l ∧ ∀ d ∈ X,∃ a n b,d = Nd.d n ∧ Stands a n b l:=by
 intro k
 induction k with
 | zero =>
  intro l f hd hf hw
  obtain ⟨f,rfl⟩ : ∃ g,f = g + 1:=⟨f - 1,by omega⟩
  obtain ⟨ρ',e,X,a2,hρ,hX,hP⟩:=Z0 (g:=C9 2) (f:=alb f) (h:=Nd.d) (I:=fun i ρ=>∃ X a2,ρ = [‹.tuple (Nd.ds l)›,some (.own X),a2] ∧ X.length ≤ Nd.wgs (l.take i) ∧ ∀ d ∈ X,∃ a n b,d = Nd.d n ∧ Stands a n b l) l 0 [‹.tuple (Nd.ds l)›,some (.own []),none] ⟨[],none,rfl,Nat.zero_le _,fun d h=>absurd h (by simp)⟩ (fun j n hj ρ hρ=>by
   obtain ⟨X,a2,rfl,hX,hP⟩:=hρ
   rw [Nat.zero_add] at hX ⊢
   obtain ⟨hjl,rfl⟩:=List.getElem?_eq_some_iff.mp hj
   have hsp : l = l.take j ++ l[j] :: l.drop (j + 1):=by rw [← List.drop_eq_getElem_cons hjl,List.take_append_drop]
   have ww : Nd.wgs (l.take (j + 1)) = Nd.wgs (l.take j) + (l[j]).wg:=by rw [List.take_succ_eq_append_getElem hjl,W5,Nd.wgs,Nd.wgs,Nat.add_zero]
   have wl : Nd.wgs (l.take j) ≤ Nd.wgs l:=by
    have:=congrArg Nd.wgs (List.take_append_drop j l)
    rw [W5] at this; omega
   have hdp:=j0 (List.getElem_mem hjl)
   have wp:=bt2 l[j]
   refine ⟨_,rfl,_,aU9 f (by omega) _ X (by omega),_,_,rfl,by rw [List.length_append,ww]; show X.length + 1 ≤ _; omega,fun d hd=>?_⟩
   rcases List.mem_append.mp hd with q | q
   ·exact hP d q
   ·rw [List.mem_singleton.mp q]
    exact ⟨l.take j,l[j],l.drop (j + 1),rfl,by
     have:=Stands.top (a:=l.take j) (n:=l[j]) (b:=l.drop (j + 1))
     rwa [← hsp] at this⟩)
  subst hρ
  rw [Nat.zero_add,List.take_of_length_le (Nat.le_refl _)] at hX
  refine ⟨X,?_,hX,hP⟩
  rw [← T7] at e
  refine B2 (g:=aw0 (G7 f)) (ρ:=[‹.tuple (Nd.ds l)›,none,none]) rfl ?_
  have s0 : (U4 1 A7) [‹.tuple (Nd.ds l)›,none,none] = some (.nx [‹.tuple (Nd.ds l)›,some (.own []),none]):=rfl
  have s1 : (W3 (F0 (A6 0)) (C9 2) (alb f)) [‹.tuple (Nd.ds l)›,some (.own []),none] = some (.nx [‹.tuple (Nd.ds l)›,some (.own X),a2]):=e
  have s2 : (ak6 1 (B5 (A6 1))) [‹.tuple (Nd.ds l)›,some (.own X),a2] = some (.rt (.list X)):=rfl
  exact (B7 s0).trans ((B7 s1).trans s2)
 | succ k ih =>
  intro l f hd hf hw
  obtain ⟨f,rfl⟩ : ∃ g,f = g + 1:=⟨f - 1,by omega⟩
  obtain ⟨ρ',e,X,a2,hρ,hX,hP⟩:=Z0 (g:=C9 2) (f:=alb f) (h:=Nd.d) (I:=fun i ρ=>∃ X a2,ρ = [‹.tuple (Nd.ds l)›,some (.own X),a2] ∧ X.length ≤ Nd.wgs (l.take i) ∧ ∀ d ∈ X,∃ a n b,d = Nd.d n ∧ Stands a n b l) l 0 [‹.tuple (Nd.ds l)›,some (.own []),none] ⟨[],none,rfl,Nat.zero_le _,fun d h=>absurd h (by simp)⟩ (fun j n hj ρ hρ=>by
   obtain ⟨X,a2,rfl,hX,hP⟩:=hρ
   rw [Nat.zero_add] at hX ⊢
   obtain ⟨hjl,hn⟩:=List.getElem?_eq_some_iff.mp hj
   have hsp : l = l.take j ++ l[j] :: l.drop (j + 1):=by rw [← List.drop_eq_getElem_cons hjl,List.take_append_drop]
   have ww : Nd.wgs (l.take (j + 1)) = Nd.wgs (l.take j) + (l[j]).wg:=by rw [List.take_succ_eq_append_getElem hjl,W5,Nd.wgs,Nd.wgs,Nat.add_zero]
   have wt : Nd.wgs (l.take j) + (l[j]).wg ≤ Nd.wgs l:=by
    have:=congrArg Nd.wgs (List.take_append_drop (j + 1) l)
    rw [W5] at this; omega
   have hdp:=j0 (List.getElem_mem hjl)
   rw [hn] at hsp ww wt hdp
   have wp:=bt2 n
   have tp : Stands (l.take j) n (l.drop (j + 1)) l:=by
    have:=Stands.top (a:=l.take j) (n:=n) (b:=l.drop (j + 1))
    rwa [← hsp] at this
   by_cases hg : n.dp = 0
   ·refine ⟨_,rfl,_,aU9 f hg _ X (by omega),_,_,rfl,by rw [List.length_append,ww]; show X.length + 1 ≤ _; omega,fun d hd=>?_⟩
    rcases List.mem_append.mp hd with q | q
    ·exact hP d q
    ·rw [List.mem_singleton.mp q]; exact ⟨_,n,_,rfl,tp⟩
   ·cases n with
    | layer=>exact absurd rfl hg
    | tone=>exact absurd rfl hg
    | group nm m s sh ns =>
     rw [Nd.dp] at hdp
     rw [Nd.wg] at ww wt
     obtain ⟨Y,eY,lY,hY⟩:=ih ns f (by omega) (by omega) (by omega)
     refine ⟨_,rfl,_,bs4 f _ X Y (by omega) (by omega) eY,_,_,rfl,by rw [List.length_append,List.length_append,ww]; show X.length + 1 + Y.length ≤ _; omega,fun d hd=>?_⟩
     rcases List.mem_append.mp hd with q | q
     ·rcases List.mem_append.mp q with q | q
      ·exact hP d q
      ·rw [List.mem_singleton.mp q]; exact ⟨_,_,_,rfl,tp⟩
     ·obtain ⟨a,n,b,rfl,st⟩:=hY d q
      refine ⟨a,n,b,rfl,?_⟩
      have:=Stands.deep (c:=l.take j) (e:=l.drop (j + 1)) (nm:=nm) (m:=m) (s:=s) (sh:=sh) st
      rwa [← hsp] at this)
  subst hρ
  rw [Nat.zero_add,List.take_of_length_le (Nat.le_refl _)] at hX
  refine ⟨X,?_,hX,hP⟩
  rw [← T7] at e
  refine B2 (g:=aw0 (G7 f)) (ρ:=[‹.tuple (Nd.ds l)›,none,none]) rfl ?_
  have s0 : (U4 1 A7) [‹.tuple (Nd.ds l)›,none,none] = some (.nx [‹.tuple (Nd.ds l)›,some (.own []),none]):=rfl
  have s1 : (W3 (F0 (A6 0)) (C9 2) (alb f)) [‹.tuple (Nd.ds l)›,some (.own []),none] = some (.nx [‹.tuple (Nd.ds l)›,some (.own X),a2]):=e
  have s2 : (ak6 1 (B5 (A6 1))) [‹.tuple (Nd.ds l)›,some (.own X),a2] = some (.rt (.list X)):=rfl
  exact (B7 s0).trans ((B7 s1).trans s2)
end Sh
namespace Sh
open PySem G L2
def Low (s : Str) : Prop:=∀ c ∈ s.cps.toList,97 ≤ c ∧ c ≤ 122
def Nm (d : D) : Prop:=∃ s : Str,d = .str s ∧ Low s ∧ 1 ≤ s.length ∧ s.length ≤ 6
theorem strength_of (n : Nd) : ∃ s,P0 [n.d] = some (fr s) ∧ (n.Ok → Sr 4 s):=by
 cases n with
 | layer nm m s sh lf tp mk w h l kb=>exact ⟨s,by rw [Nd.d]; rfl,fun o=>by rw [Nd.Ok] at o; exact o.1⟩
 | tone nm r s sh=>exact ⟨s,by rw [Nd.d]; rfl,fun o=>by rw [Nd.Ok] at o; exact o⟩
 | group nm m s sh ns=>exact ⟨s,by rw [Nd.d]; rfl,fun o=>by rw [Nd.Ok] at o; exact o.1⟩
def nmb (f : Nat) : DS:=(B4 (T1 1 (A9 M0 (A5 (A6 2) A7))) (sIf (C3 (A9 M8 (A5 (A6 2) A7))) (aX0 1 (A9 (D1 f) (A5 (A9 J5 (A5 (A6 2) A7)) A7))) C7))
theorem cd6 {n : Nd} (f : Nat) (a0 : Option B) (X : List D) (hX : X.length + n.nms.length ≤ 1000) (H : ∀ nm m s sh ns,n = .group nm m s sh ns → D1 f [.tuple (Nd.ds ns)] = some (.list (Nd.nmss ns))) : nmb f [a0,some (.own X),some (.val n.d)] = some (.nx [a0,some (.own (X ++ n.nms)),some (.val n.d)]):=by
 have hx : X.length < 16777216:=by omega
 have en:=name_of n
 have eg:=aR5 n
 have s0 : (T1 1 (A9 M0 (A5 (A6 2) A7))) [a0,some (.own X),some (.val n.d)] = some (.nx [a0,some (.own (X ++ [n.nm])),some (.val n.d)]):=by
  simp only [T1,A9,A5,A7,en,xg0,xg1,if_pos hx,A6,xms,xbs,xw0,xw1]
 unfold nmb
 rw [B7 s0]
 cases n with
 | layer=>wp_walk using evD,eg; rw [Nd.nm,Nd.nms]
 | tone=>wp_walk using evD,eg; rw [Nd.nm,Nd.nms]
 | group nm m s sh ns =>
  have e1 : J5 [Nd.d (.group nm m s sh ns)] = some (.tuple (Nd.ds ns)):=by rw [Nd.d]; rfl
  have e2:=H nm m s sh ns rfl
  rw [Nd.nms] at hX
  have e3 : (X ++ [nm]).length + (Nd.nmss ns).length ≤ 16777216:=by simp at hX ⊢; omega
  rw [Nd.nm]
  wp_walk using evD,aX0,eg,e1,e2,if_pos e3
  rw [Nd.nms,List.append_assoc]; rfl
theorem bf5 {l : List Nd} {f : Nat} (hw : (Nd.nmss l).length ≤ 1000) (H : ∀ n ∈ l,∀ nm m s sh ns,n = .group nm m s sh ns → D1 f [.tuple (Nd.ds ns)] = some (.list (Nd.nmss ns))) : D1 (f + 1) [.tuple (Nd.ds l)] = some (.list (Nd.nmss l)):=by
 obtain ⟨ρ',e,a2,hρ⟩:=Z0 (g:=C9 2) (f:=nmb f) (h:=Nd.d) (I:=fun i ρ=>∃ a2,ρ = [‹.tuple (Nd.ds l)›,some (.own (Nd.nmss (l.take i))),a2]) l 0 [‹.tuple (Nd.ds l)›,some (.own []),none] ⟨none,rfl⟩ (fun j n hj ρ hρ=>by
  obtain ⟨a2,rfl⟩:=hρ
  rw [Nat.zero_add]
  obtain ⟨hjl,rfl⟩:=List.getElem?_eq_some_iff.mp hj
  have ww : Nd.nmss (l.take (j + 1)) = Nd.nmss (l.take j) ++ (l[j]).nms:=by rw [List.take_succ_eq_append_getElem hjl,M1,Nd.nmss,Nd.nmss,List.append_nil]
  have wl:=congrArg (fun x=>(Nd.nmss x).length) (List.take_append_drop (j + 1) l)
  simp only [M1,ww,List.length_append] at wl
  exact ⟨_,rfl,_,cd6 f _ _ (by omega) (H _ (List.getElem_mem hjl)),_,by rw [ww]⟩)
 subst hρ
 rw [Nat.zero_add,List.take_of_length_le (Nat.le_refl _),← T7] at e
 refine B2 (g:=V1 (D1 f)) (ρ:=[‹.tuple (Nd.ds l)›,none,none]) rfl ?_
 have s0 : (U4 1 A7) [‹.tuple (Nd.ds l)›,none,none] = some (.nx [‹.tuple (Nd.ds l)›,some (.own []),none]):=rfl
 have s1 : (W3 (F0 (A6 0)) (C9 2) (nmb f)) [‹.tuple (Nd.ds l)›,some (.own []),none] = some (.nx [‹.tuple (Nd.ds l)›,some (.own (Nd.nmss l)),a2]):=e
 have s2 : (ak6 1 (B5 (A6 1))) [‹.tuple (Nd.ds l)›,some (.own (Nd.nmss l)),a2] = some (.rt (.list (Nd.nmss l))):=rfl
 exact (B7 s0).trans ((B7 s1).trans s2)
theorem bK9 {n : Nd} {l : List Nd} (h : n ∈ l) : n.nms.length ≤ (Nd.nmss l).length:=by
 obtain ⟨a,b,rfl⟩:=List.append_of_mem h
 rw [M1,Nd.nmss,List.length_append,List.length_append]; omega
theorem names_among : ∀ (k : Nat) (l : List Nd) (f : Nat),Nd.dps l ≤ k → k + 1 ≤ f → (Nd.nmss l).length ≤ 1000 → D1 f [.tuple (Nd.ds l)] = some (.list (Nd.nmss l)):=by
 intro k
 induction k with
 | zero =>
  intro l f hd hf hw
  obtain ⟨f,rfl⟩ : ∃ g,f = g + 1:=⟨f - 1,by omega⟩
  refine bf5 hw fun n hn nm m s sh ns e=>?_
  have:=j0 hn
  rw [e,Nd.dp] at this; omega
 | succ k ih =>
  intro l f hd hf hw
  obtain ⟨f,rfl⟩ : ∃ g,f = g + 1:=⟨f - 1,by omega⟩
  refine bf5 hw fun n hn nm m s sh ns e=>?_
  have h1:=j0 hn
  have h2:=bK9 hn
  rw [e,Nd.dp] at h1
  rw [e,Nd.nms,List.length_cons] at h2
  exact ih ns f (by omega) (by omega) (by omega)
end Sh
namespace Sh
open PySem G L2
mutual
def wt : D → Nat
 | .tuple xs=>1 + wts xs
 | .list xs=>1 + wts xs
 | _=>1
def wts : List D → Nat
 | []=>0
 | x :: xs=>wt x + wts xs
end
theorem u7 : ∀ xs ys : List D,wts (xs ++ ys) = wts xs + wts ys
 | [],ys=>by rw [xna,wts,Nat.zero_add]
 | x :: xs,ys=>by rw [xca,wts,wts,u7 xs ys]; omega
theorem bd1 : ∀ xs : List D,wts xs.reverse = wts xs
 | []=>rfl
 | x :: xs=>by rw [List.reverse_cons,u7,bd1 xs,wts,wts,wts]; omega
theorem aH0 (xs : List D) (l h : Option Int) : wts (P5 xs l h) ≤ wts xs:=by
 have td : ∀ (a : Nat) (ys : List D),wts (ys.take a) ≤ wts ys ∧ wts (ys.drop a) ≤ wts ys:=fun a ys=>by
  have:=congrArg wts (List.take_append_drop a ys)
  rw [u7] at this
  omega
 unfold P5
 exact Nat.le_trans (td _ _).1 (td _ _).2
theorem bU3 {x : D} {xs : List D} {i : Nat} (h : xs[i]? = some x) : wts (xs.take i) + wt x + wts (xs.drop (i + 1)) = wts xs:=by
 obtain ⟨hi,rfl⟩:=List.getElem?_eq_some_iff.mp h
 have:=congrArg wts (List.take_append_drop i xs)
 rw [List.drop_eq_getElem_cons hi,u7,wts] at this
 omega
def Gk : Nat → D → Prop
 | _,.none=>True
 | _,.bool _=>True
 | _,.int i=>i.natAbs < 2 ^ 40
 | _,.str x=>x.cps.all (· < 128) = true ∧ x.cps.size ≤ 100
 | n + 1,.tuple xs=>xs.length ≤ 64 ∧ ∀ x ∈ xs,Gk n x
 | n + 1,.list xs=>xs.length ≤ 64 ∧ ∀ x ∈ xs,Gk n x
 | _,_=>False
theorem Gk.gd : ∀ (n : Nat) (d : D),Gk n d → Gd n d:=by
 have st : ∀ x : Str,x.cps.all (· < 128) = true → PyData.strOk x = true:=fun x h=>by
  unfold PyData.strOk
  rw [Array.all_eq_true] at h ⊢
  intro i hi
  have:=h i hi
  simp only [decide_eq_true_eq] at this ⊢
  omega
 intro n
 induction n with
 | zero=>intro d g; cases d <;> first | exact trivial | exact g | exact st _ g.1 | exact g.elim
 | succ n ih =>
  intro d g
  cases d with
  | tuple xs=>exact ⟨g.1,fun x hx=>ih x (g.2 x hx)⟩
  | list xs=>exact ⟨g.1,fun x hx=>ih x (g.2 x hx)⟩
  | none=>exact trivial
  | bool b=>exact trivial
  | int i=>exact g
  | str x=>exact st _ g.1
  | dict _=>exact g.elim
theorem Gk.ly {n : Nat} {d : D} (g : Gk n d) : Ly n d:=(Gk.gd n d g).ly
theorem bC8 {s : String} (h : ∀ c ∈ s.toList,c.toNat < 128) (hl : s.toList.length ≤ 100) (n : Nat) : Gk n (.str (Str.ofString s)):=by
 have e : (Str.ofString s).cps.toList = s.toList.map Char.toNat:=PyProof.Rows.signs_ofString s
 have q : (Str.ofString s).cps.all (· < 128) = true ∧ (Str.ofString s).cps.size ≤ 100:=by
  constructor
  ·rw [← Array.all_toList,e,List.all_map,List.all_eq_true]
   intro c hc
   exact decide_eq_true (h c hc)
  ·rw [← Array.length_toList,e,List.length_map]; exact hl
 cases n <;> exact q
theorem af1 (n : Nat) (b : Bool) : Gk n (.bool b):=by cases n <;> exact trivial
theorem aK4 (n : Nat) : Gk n .none:=by cases n <;> exact trivial
theorem P4 (n : Nat) (i : Int) (h : i.natAbs < 2 ^ 40) : Gk n (.int i):=by cases n <;> exact h
theorem Q0 (n : Nat) (x : Str) (h : x.cps.all (· < 128) = true) (hl : x.cps.size ≤ 100) : Gk n (.str x):=by cases n <;> exact ⟨h,hl⟩
theorem L3 {n : Nat} {xs : List D} (h : xs.length ≤ 64) (g : ∀ x ∈ xs,Gk n x) : Gk (n + 1) (.tuple xs):=⟨h,g⟩
theorem aZ4 {n : Nat} {xs : List D} (h : xs.length ≤ 64) (g : ∀ x ∈ xs,Gk n x) : Gk (n + 1) (.list xs):=⟨h,g⟩
theorem M6 {n : Nat} : ∀ x ∈ ([] : List D),Gk n x:=fun x hx=>absurd hx List.not_mem_nil
theorem B8 {n : Nat} {x : D} {xs : List D} (h : Gk n x) (g : ∀ y ∈ xs,Gk n y) : ∀ y ∈ x :: xs,Gk n y:=fun y hy=>(List.mem_cons.mp hy).elim (fun e=>e ▸ h) (g y)
theorem Gk.mono : ∀ {m n : Nat} {d : D},Gk m d → m ≤ n → Gk n d:=by
 intro m
 induction m with
 | zero =>
  intro n d g h
  cases d <;> first | exact g.elim | (cases n <;> exact g)
 | succ m ih =>
  intro n d g h
  obtain ⟨n,rfl⟩ : ∃ k,n = k + 1:=⟨n - 1,by omega⟩
  cases d with
  | tuple xs=>exact ⟨g.1,fun x hx=>ih (g.2 x hx) (by omega)⟩
  | list xs=>exact ⟨g.1,fun x hx=>ih (g.2 x hx) (by omega)⟩
  | none=>exact trivial
  | bool b=>exact trivial
  | int i=>exact g
  | str x=>exact g
  | dict _=>exact g.elim
theorem gk2 (n : Nat) (i j : Int) (hi : i.natAbs < 2 ^ 40) (hj : j.natAbs < 2 ^ 40) : Gk (n + 1) (.tuple [.int i,.int j]):=L3 (by show 2 ≤ 64; decide) (B8 (P4 n _ hi) (B8 (P4 n _ hj) M6))
theorem cc7 (n : Nat) : ∀ d ∈ bk9,Gk (n + 2) d:=by
 unfold bk9
 have s1 : ∀ n,Gk n (.str ""):=fun n=>Q0 n _ (by decide +kernel) (by decide +kernel)
 have s2 : ∀ n,Gk n (.str "a"):=fun n=>Q0 n _ (by decide +kernel) (by decide +kernel)
 have s3 : ∀ n,Gk n (.str "over"):=fun n=>Q0 n _ (by decide +kernel) (by decide +kernel)
 have s4 : ∀ n,Gk n (.str "Ab"):=fun n=>Q0 n _ (by decide +kernel) (by decide +kernel)
 have s5 : ∀ n,Gk n (.str "abcdefg"):=fun n=>Q0 n _ (by decide +kernel) (by decide +kernel)
 have s6 : ∀ n,Gk n (.str "tone"):=fun n=>Q0 n _ (by decide +kernel) (by decide +kernel)
 have s7 : ∀ n,Gk n (.str "zz"):=fun n=>Q0 n _ (by decide +kernel) (by decide +kernel)
 have s8 : ∀ n,Gk n (.str "grey"):=fun n=>Q0 n _ (by decide +kernel) (by decide +kernel)
 repeat' (first
  | exact M6
  | exact s1 _ | exact s2 _ | exact s3 _ | exact s4 _ | exact s5 _ | exact s6 _ | exact s7 _ | exact s8 _
  | exact P4 _ _ (by decide)
  | exact af1 _ _
  | exact aK4 _
  | exact gk2 _ _ _ (by decide) (by decide)
  | refine L3 (by simp) ?_
  | refine aZ4 (by simp) ?_
  | refine B8 ?_ ?_)
theorem cc6 : ∀ d ∈ bk9,wt d ≤ 14:=by
 intro d hd
 simp only [bk9,List.mem_cons,List.not_mem_nil,or_false] at hd
 rcases hd with rfl | rfl | rfl | rfl | rfl | rfl | rfl | rfl | rfl | rfl | rfl | rfl | rfl | rfl | rfl | rfl | rfl | rfl | rfl | rfl | rfl | rfl | rfl | rfl | rfl | rfl <;> simp [wt,wts]
theorem av0 (m : Nat) (n : Int) : ∃ d,aw1 [.int n] = some d ∧ Gk (m + 2) d ∧ wt d ≤ 14:=by
 obtain ⟨d,hd,e⟩:=aA3 bk9 n 26 rfl (by decide)
 refine ⟨d,?_,cc7 m d hd,cc6 d hd⟩
 refine B2 (ρ:=[‹.int n›,none]) rfl ?_
 rw [bK2,e]; rfl
theorem aS0 (n : Nat) (i : Int) (hi : i.natAbs < 2 ^ 40) : Gk n (.str (Str.ofString (toString i))):=by
 refine bC8 (int_ascii i) ?_ n
 have nat : ∀ m : Nat,m < 2 ^ 40 → (Nat.repr m).toList.length ≤ 20:=fun m hm=>by
  rw [String.length_toList]
  exact (Nat.length_repr_le_iff (by decide)).mpr (Nat.lt_of_lt_of_le hm (by decide))
 rw [Int.toString_eq_repr,Int.repr_eq_if]
 split
 ·have:=nat i.toNat (by omega); omega
 ·rw [String.toList_append,List.length_append]
  have:=nat (-i).toNat (by omega)
  have e : "-".toList.length = 1:=by decide
  omega
theorem be0 (j m : Nat) (i n k : Int) (hi : i.natAbs < 2 ^ 30) : ∃ d,F4 (j + 1) [.int i,.int n,.int k] = some d ∧ Gk (m + 2) d ∧ wt d ≤ 14:=by
 have d7 : T8 (.int n) (.int 7) = some (.int (n / 7)):=ab9 (by decide) (sml 7 (by decide))
 have d14 : T8 (.int n) (.int 14) = some (.int (n / 14)):=ab9 (by decide) (sml 14 (by decide))
 have m2 : P3 (.int (n / 7)) (.int 2) = some (.int (n / 7 % 2)):=p9 (by decide)
 have m6 : P3 (.int (n / 14)) (.int 6) = some (.int (n / 14 % 6)):=p9 (by decide)
 have lg : i.natAbs.log2 < 1920:=by
  rcases Nat.eq_zero_or_pos i.natAbs with h | h
  ·rw [h]; decide
  ·have:=(Nat.log2_lt (n:=i.natAbs) (k:=30) (by omega)).mpr hi
   omega
 obtain ⟨d,hd,e⟩:=aA3 [.str (Str.ofString (toString i)),.int (0 - i),.int (i + 1),.bool (i == 1),.int (i - 1),.int (i + 9)] (n / 14) 6 rfl (by show 0 < 6; decide)
 have gw : wt d ≤ 14:=by
  simp only [List.mem_cons,List.not_mem_nil,or_false] at hd
  rcases hd with rfl | rfl | rfl | rfl | rfl | rfl <;> simp [wt]
 have gd : Gk (m + 2) d ∧ wt d ≤ 14:=⟨B8 (aS0 _ i (by omega)) (B8 (P4 _ _ (by omega)) (B8 (P4 _ _ (by omega)) (B8 (af1 _ _) (B8 (P4 _ _ (by omega)) (B8 (P4 _ _ (by omega)) M6))))) d hd,gw⟩
 obtain ⟨o,eo,go⟩:=av0 m (n / 7)
 cases h : (n / 7 % 2 == 0) with
 | true =>
  refine ⟨d,?_,gd⟩
  refine B2 (ρ:=[‹.int i›,‹.int n›,‹.int k›,none,none]) rfl ?_
  by_cases hk : 0 < k
  ·wp_walk using evC,G0,hk,decide_true,d7,d14,m2,m6,h,ba7,lg,e
  ·wp_walk using evC,G0,hk,decide_false,d7,d14,m2,m6,h,ba7,lg,e
 | false =>
  refine ⟨o,?_,go⟩
  refine B2 (ρ:=[‹.int i›,‹.int n›,‹.int k›,none,none]) rfl ?_
  by_cases hk : 0 < k
  ·wp_walk using evC,G0,hk,decide_true,d7,m2,h,eo
  ·wp_walk using evC,G0,hk,decide_false,d7,m2,h,eo
theorem aO1 (j m : Nat) (b : Bool) (n k : Int) : ∃ d,F4 (j + 1) [.bool b,.int n,.int k] = some d ∧ Gk (m + 2) d ∧ wt d ≤ 14:=by
 have d7 : T8 (.int n) (.int 7) = some (.int (n / 7)):=ab9 (by decide) (sml 7 (by decide))
 have d14 : T8 (.int n) (.int 14) = some (.int (n / 14)):=ab9 (by decide) (sml 14 (by decide))
 have m2 : P3 (.int (n / 7)) (.int 2) = some (.int (n / 7 % 2)):=p9 (by decide)
 have m6 : P3 (.int (n / 14)) (.int 6) = some (.int (n / 14 % 6)):=p9 (by decide)
 obtain ⟨i,hi⟩ : ∃ i : Int,i = if b = true then 1 else 0:=⟨_,rfl⟩
 have hi' : i.natAbs ≤ 1:=by rw [hi]; cases b <;> decide
 have s1 : aj5 (.int 0) (.bool b) = some (.int (0 - i)):=by rw [hi]; rfl
 have s2 : aj5 (.bool b) (.int 1) = some (.int (i - 1)):=by rw [hi]; rfl
 have c1 : T3 (.bool b) (.int 1) = some (.int (i + 1)):=by rw [hi]; rfl
 have c9 : T3 (.bool b) (.int 9) = some (.int (i + 9)):=by rw [hi]; rfl
 obtain ⟨t,ht⟩ : ∃ t,eqD (.bool b) (.int 1) = some (.bool t):=⟨_,rfl⟩
 obtain ⟨d,hd,e⟩:=aA3 [.str (if b = true then "True" else "False"),.int (0 - i),.int (i + 1),.bool t,.int (i - 1),.int (i + 9)] (n / 14) 6 rfl (by show 0 < 6; decide)
 have gw : wt d ≤ 14:=by
  simp only [List.mem_cons,List.not_mem_nil,or_false] at hd
  rcases hd with rfl | rfl | rfl | rfl | rfl | rfl <;> simp [wt]
 have gd : Gk (m + 2) d ∧ wt d ≤ 14:=⟨B8 (by cases b <;> exact Q0 _ _ (by decide +kernel) (by decide +kernel)) (B8 (P4 _ _ (by omega)) (B8 (P4 _ _ (by omega)) (B8 (af1 _ _) (B8 (P4 _ _ (by omega)) (B8 (P4 _ _ (by omega)) M6))))) d hd,gw⟩
 obtain ⟨o,eo,go⟩:=av0 m (n / 7)
 cases h : (n / 7 % 2 == 0) with
 | true =>
  refine ⟨d,?_,gd⟩
  refine B2 (ρ:=[‹.bool b›,‹.int n›,‹.int k›,none,none]) rfl ?_
  by_cases hk : 0 < k
  ·wp_walk using evC,G0,hk,decide_true,d7,d14,m2,m6,h,ba7,s1,s2,c1,c9,ht,e
  ·wp_walk using evC,G0,hk,decide_false,d7,d14,m2,m6,h,ba7,s1,s2,c1,c9,ht,e
 | false =>
  refine ⟨o,?_,go⟩
  refine B2 (ρ:=[‹.bool b›,‹.int n›,‹.int k›,none,none]) rfl ?_
  by_cases hk : 0 < k
  ·wp_walk using evC,G0,hk,decide_true,d7,m2,h,eo
  ·wp_walk using evC,G0,hk,decide_false,d7,m2,h,eo
theorem aO0 (j m : Nat) (d0 : D) (n k : Int) (h0 : K7 "int" d0 = some false) (h1 : K7 "tuple" d0 = some false ∨ d0 = .tuple []) : ∃ d,F4 (j + 1) [d0,.int n,.int k] = some d ∧ Gk (m + 2) d ∧ wt d ≤ 14:=by
 have d7 : T8 (.int n) (.int 7) = some (.int (n / 7)):=ab9 (by decide) (sml 7 (by decide))
 obtain ⟨o,eo,go⟩:=av0 m (n / 7)
 refine ⟨o,?_,go⟩
 refine B2 (ρ:=[some (.val d0),‹.int n›,‹.int k›,none,none]) rfl ?_
 have i0 : D5 "int" (A6 0) [some (.val d0),‹.int n›,‹.int k›,none,none] = some (.bool false):=by
  simp only [D5,A6,xg0,xbs,h0,xms]
 rcases h1 with h1 | rfl
 ·have i1 : D5 "tuple" (A6 0) [some (.val d0),‹.int n›,‹.int k›,none,none] = some (.bool false):=by
   simp only [D5,A6,xg0,xbs,h1,xms]
  by_cases hk : 0 < k
  ·simp only [G0,B4,sIf,M9,tB2,C3,B0,i0,i1,J6,C6,A6,dC,A9,A5,A7,B5,C7,xg0,xg1,ae3,hk,decide_true,d7,eo,xbs,xms,xft,if_true,if_false]
  ·simp only [G0,B4,sIf,M9,tB2,C3,B0,i0,i1,J6,C6,A6,dC,A9,A5,A7,B5,C7,xg0,xg1,ae3,hk,decide_false,d7,eo,xbs,xms,xft,if_true,if_false]
 ·have l0 : decide ((0 : Int) < (((([] : List D).length : Nat)) : Int)) = false:=by decide
  by_cases hk : 0 < k
  ·wp_walk using evC,G0,hk,decide_true,l0,d7,eo
  ·wp_walk using evC,G0,hk,decide_false,l0,d7,eo
theorem ck9 {xs : List D} {i : Nat} (h : i < xs.length) : P5 xs none (some (i : Int)) = xs.take i:=by
 unfold P5
 rw [HT.sIx_none,HT.sIx_nat,List.drop_zero,Nat.min_eq_left (Nat.le_of_lt h),Nat.sub_zero]
theorem bE6 {xs : List D} {i : Nat} (h : i < xs.length) : P5 xs (some ((i : Int) + 1)) none = xs.drop (i + 1):=by
 have e : ((i : Int) + 1) = ((i + 1 : Nat) : Int):=by omega
 rw [e]
 unfold P5
 rw [HT.sIx_none,HT.sIx_nat,Nat.min_eq_left h]
 exact List.take_of_length_le (by rw [List.length_drop]; exact Nat.le_refl _)
theorem bd9 {j m : Nat} {xs : List D} (h0 : xs ≠ []) (hl : xs.length ≤ 16) (g : ∀ x ∈ xs,Gk (m + 2) x) (n k : Int) (R : 0 < k → ∀ x ∈ xs,∀ n : Int,∃ d,F4 j [x,.int n,.int (k - 1)] = some d ∧ Gk (m + 2) d ∧ wt d ≤ 2 * wt x + 14) :
  ∃ d,F4 (j + 1) [.tuple xs,.int n,.int k] = some d ∧ Gk (m + 3) d ∧ wt d ≤ 2 * wt (.tuple xs) + 14:=by
 have lp : 0 < xs.length:=by cases xs with
  | nil=>exact absurd rfl h0
  | cons _ _=>simp
 have d7 : T8 (.int n) (.int 7) = some (.int (n / 7)):=ab9 (by decide) (sml 7 (by decide))
 have d91 : T8 (.int n) (.int 91) = some (.int (n / 91)):=ab9 (by decide) (sml 91 (by decide))
 have d14 : T8 (.int n) (.int 14) = some (.int (n / 14)):=ab9 (by decide) (sml 14 (by decide))
 have m2 : P3 (.int (n / 7)) (.int 2) = some (.int (n / 7 % 2)):=p9 (by decide)
 have m6 : P3 (.int (n / 14)) (.int 6) = some (.int (n / 14 % 6)):=p9 (by decide)
 have m7 : P3 (.int n) (.int 7) = some (.int (n % 7)):=p9 (by decide)
 have ml : P3 (.int (n / 7)) (.int ((xs.length : Nat) : Int)) = some (.int (n / 7 % ((xs.length : Nat) : Int))):=p9 (by omega)
 have lz : decide ((0 : Int) < ((xs.length : Nat) : Int)) = true:=decide_eq_true (by omega)
 have c1:=ap0 xs none (some (-1))
 have c2:=ap0 xs (some (-1)) none
 have c3:=ap0 xs (some 1) none
 have k1 : T3 (.tuple xs) (.tuple (P5 xs (some (-1)) none)) = _:=cat_tup (by omega)
 have k2:=cn3 xs h0 hl
 obtain ⟨o,eo,go,wo⟩:=av0 (m + 1) (n / 7)
 have wx : wt (.tuple xs) = 1 + wts xs:=by rw [wt]
 obtain ⟨d,hd,e⟩:=aA3 [.list xs,.tuple (P5 xs none (some (-1))),.tuple (xs ++ P5 xs (some (-1)) none),.tuple (P5 xs (some 1) none),.tuple xs.reverse,.tuple (xs ++ xs)] (n / 14) 6 rfl (by show 0 < 6; decide)
 have gd : Gk (m + 3) d:=by
  refine B8 ?_ (B8 ?_ (B8 ?_ (B8 ?_ (B8 ?_ (B8 ?_ M6))))) d hd
  ·exact aZ4 (by omega) g
  ·exact L3 (by omega) fun x hx=>g x (ao9 hx)
  ·exact L3 (by rw [List.length_append]; omega) fun x hx=>(List.mem_append.mp hx).elim (g x) fun hx=>g x (ao9 hx)
  ·exact L3 (by omega) fun x hx=>g x (ao9 hx)
  ·exact L3 (by rw [List.length_reverse]; omega) fun x hx=>g x (List.mem_reverse.mp hx)
  ·exact L3 (by rw [List.length_append]; omega) fun x hx=>(List.mem_append.mp hx).elim (g x) (g x)
 have wd : wt d ≤ 2 * wt (.tuple xs) + 14:=by
  have w1:=aH0 xs none (some (-1))
  have w2:=aH0 xs (some (-1)) none
  have w3:=aH0 xs (some 1) none
  have w4:=bd1 xs
  simp only [List.mem_cons,List.not_mem_nil,or_false] at hd
  rw [wx]
  rcases hd with rfl | rfl | rfl | rfl | rfl | rfl <;> simp only [wt,u7] <;> omega
 obtain ⟨a,ha,ea⟩:=aA3 xs (n / 7) ((xs.length : Nat) : Int) rfl lp
 by_cases q : 0 < k ∧ 0 < n % 7
 ·obtain ⟨b,eb,gb,wb⟩:=R q.1 a ha (n / 91)
  have p0 : 0 ≤ n / 7 % ((xs.length : Nat) : Int):=Int.emod_nonneg _ (by omega)
  have p1 : n / 7 % ((xs.length : Nat) : Int) < ((xs.length : Nat) : Int):=Int.emod_lt_of_pos _ (by omega)
  generalize hP : n / 7 % ((xs.length : Nat) : Int) = P at *
  have c4:=ap0 xs none (some P)
  have c5:=ap0 xs (some (P + 1)) none
  have k3 : T3 (.tuple (P5 xs none (some P))) (.tuple [b]) = _:=cat_tup (by show _ + 1 ≤ _; omega)
  have k4 : T3 (.tuple (P5 xs none (some P) ++ [b])) (.tuple (P5 xs (some (P + 1)) none)) = _:=cat_tup (by rw [List.length_append]; show _ + 1 + _ ≤ _; omega)
  have gw : Gk (m + 3) (.tuple (P5 xs none (some P) ++ [b] ++ P5 xs (some (P + 1)) none)):=by
   refine L3 (by rw [List.length_append,List.length_append]; show _ + 1 + _ ≤ _; omega) fun x hx=>?_
   rcases List.mem_append.mp hx with hx | hx
   ·rcases List.mem_append.mp hx with hx | hx
    ·exact g x (ao9 hx)
    ·rw [List.mem_singleton.mp hx]; exact gb
   ·exact g x (ao9 hx)
  have ww : wt (.tuple (P5 xs none (some P) ++ [b] ++ P5 xs (some (P + 1)) none)) ≤ 2 * wt (.tuple xs) + 14:=by
   obtain ⟨i,rfl⟩:=Int.eq_ofNat_of_zero_le p0
   have hi : i < xs.length:=by omega
   have ci : P5 xs none (some (i : Int)) = xs.take i:=ck9 hi
   have cj : P5 xs (some ((i : Int) + 1)) none = xs.drop (i + 1):=bE6 hi
   have ei : xs[i]? = some a:=by
    rw [O6 (List.getElem?_eq_getElem hi)] at ea
    cases ea
    exact List.getElem?_eq_getElem hi
   have:=bU3 ei
   rw [ci,cj,wx,wt,u7,u7,wts,wts]
   omega
  refine ⟨_,?_,gw,ww⟩
  refine B2 (ρ:=[‹.tuple xs›,‹.int n›,‹.int k›,none,none]) rfl ?_
  wp_walk using evC,G0,q.1,q.2,decide_true,lz,d7,d91,m7,ml,ea,eb,k3,k4
 ·have nx : M9 (tB2 gtI (A6 2) (dC (.int 0))) (M9 (C3 (D5 "tuple" (A6 0))) (M9 (tB2 gtI (E5 (B1 0)) (dC (.int 0))) (tB2 gtI (B0 P3 (A6 1) (dC (.int 7))) (dC (.int 0))))) [‹.tuple xs›,‹.int n›,‹.int k›,none,none] = some false:=by
   by_cases hk : 0 < k
   ·have : ¬ 0 < n % 7:=fun h=>q ⟨hk,h⟩
    wp_walk using evC,hk,decide_true,lz,m7,this,decide_false
   ·wp_walk using evC,hk,decide_false
  cases h : (n / 7 % 2 == 0) with
  | true =>
   refine ⟨d,?_,gd,wd⟩
   refine B2 (ρ:=[‹.tuple xs›,‹.int n›,‹.int k›,none,none]) rfl ?_
   unfold G0
   rw [B4,sIf,nx]
   wp_walk using evC,lz,d7,d14,m2,m6,h,ab3,bh0,k1,k2,e
  | false =>
   refine ⟨o,?_,go,by omega⟩
   refine B2 (ρ:=[‹.tuple xs›,‹.int n›,‹.int k›,none,none]) rfl ?_
   unfold G0
   rw [B4,sIf,nx]
   wp_walk using evC,lz,d7,m2,h,eo
def Sk : Nat → D → Prop
 | _,.none=>True
 | _,.bool _=>True
 | _,.int i=>i.natAbs < 2 ^ 30
 | _,.str x=>x.cps.all (· < 128) = true ∧ x.cps.size ≤ 100
 | n + 1,.tuple xs=>xs.length ≤ 16 ∧ ∀ x ∈ xs,Sk n x
 | _,_=>False
theorem Sk.gk : ∀ (n : Nat) (d : D),Sk n d → Gk n d:=by
 intro n
 induction n with
 | zero=>intro d g; cases d <;> first | exact trivial | exact g | exact Nat.lt_trans g (by decide) | exact g.elim
 | succ n ih =>
  intro d g
  cases d with
  | tuple xs=>exact ⟨by have:=g.1; omega,fun x hx=>ih x (g.2 x hx)⟩
  | none=>exact trivial
  | bool b=>exact trivial
  | int i=>exact Nat.lt_trans (show i.natAbs < 2 ^ 30 from g) (by decide)
  | str x=>exact g
  | list _=>exact g.elim
  | dict _=>exact g.elim
theorem be1 : ∀ (j m : Nat) (d : D) (k : Int),Sk m d → k ≤ j → ∀ n : Int,∃ d',F4 (j + 1) [d,.int n,.int k] = some d' ∧ Gk (m + 3) d' ∧ wt d' ≤ 2 * wt d + 14:=by
 intro j
 induction j with
 | zero =>
  intro m d k g hk n
  have els : K7 "int" d = some false → (K7 "tuple" d = some false ∨ d = .tuple []) → ∃ d',F4 1 [d,.int n,.int k] = some d' ∧ Gk (m + 3) d' ∧ wt d' ≤ 2 * wt d + 14:=fun a b=>let ⟨d',e,g,q⟩:=aO0 0 (m + 1) d n k a b; ⟨d',e,g,by omega⟩
  cases d with
  | none=>exact els rfl (.inl rfl)
  | str x=>exact els rfl (.inl rfl)
  | bool b=>exact let ⟨d',e,g,q⟩:=aO1 0 (m + 1) b n k; ⟨d',e,g,by omega⟩
  | int i=>exact let ⟨d',e,g,q⟩:=be0 0 (m + 1) i n k (by cases m <;> exact g); ⟨d',e,g,by omega⟩
  | list _=>cases m <;> exact g.elim
  | dict _=>cases m <;> exact g.elim
  | tuple xs =>
   cases m with
   | zero=>exact g.elim
   | succ m =>
    by_cases h0 : xs = []
    ·subst h0; exact els rfl (.inr rfl)
    ·exact bd9 (m:=m + 1) h0 g.1 (fun x hx=>(Sk.gk _ _ (g.2 x hx)).mono (by omega)) n k (fun hk'=>absurd hk' (by omega))
 | succ j ih =>
  intro m d k g hk n
  have els : K7 "int" d = some false → (K7 "tuple" d = some false ∨ d = .tuple []) → ∃ d',F4 (j + 2) [d,.int n,.int k] = some d' ∧ Gk (m + 3) d' ∧ wt d' ≤ 2 * wt d + 14:=fun a b=>let ⟨d',e,g,q⟩:=aO0 (j + 1) (m + 1) d n k a b; ⟨d',e,g,by omega⟩
  cases d with
  | none=>exact els rfl (.inl rfl)
  | str x=>exact els rfl (.inl rfl)
  | bool b=>exact let ⟨d',e,g,q⟩:=aO1 (j + 1) (m + 1) b n k; ⟨d',e,g,by omega⟩
  | int i=>exact let ⟨d',e,g,q⟩:=be0 (j + 1) (m + 1) i n k (by cases m <;> exact g); ⟨d',e,g,by omega⟩
  | list _=>cases m <;> exact g.elim
  | dict _=>cases m <;> exact g.elim
  | tuple xs =>
   cases m with
   | zero=>exact g.elim
   | succ m =>
    by_cases h0 : xs = []
    ·subst h0; exact els rfl (.inr rfl)
    ·refine bd9 (j:=j + 1) (m:=m + 1) h0 g.1 (fun x hx=>(Sk.gk _ _ (g.2 x hx)).mono (by omega)) n k fun hk' x hx n'=>?_
     obtain ⟨d',e,q⟩:=ih m x (k - 1) (g.2 x hx) (by omega) n'
     exact ⟨d',e,q⟩
end Sh
namespace Sh
open PySem PySem.Spec PyProof.Rows L2 G
end Sh
namespace Sh
open PySem PySem.Spec PyProof.Rows L2 G
end Sh
namespace Sh
open PySem PySem.Spec PyProof.Rows L2 G
end Sh
namespace Sh
open PySem PySem.Spec PyProof.Rows L2 G
end Sh
namespace Sh
open PySem PySem.Spec PyProof.Rows L2 G
end Sh
namespace G
open PySem PySem.Spec PyProof.Rows L2
section
variable {X : Cx} {S : Sg} {c : Kx}
theorem R5 {e : Expr} : JE X e dNo:=fun ρ d h=>by cases h
theorem bS7 {e : Expr} : JQ X e qNo:=fun ρ t d h=>by cases h
theorem aE5 {e : Expr} : JN X e aNo:=fun ρ d h=>by cases h
theorem bg0 {e : Expr} : JT X e tNo:=fun ρ d h=>by cases h
theorem cr8 {e : Expr} : JW X e tNo:=fun ρ d h=>by cases h
theorem aR1 {e : Expr} : JG X e gNo:=by
 unfold JG PG
 intros
 rename_i h
 obtain ⟨d,ρ,ρ',H0,Hf,z,_⟩:=h
 cases z
theorem cs5 {es : List Expr} : JA X es aNo:=⟨fun ρ d h=>(nomatch h),fun ρ d h=>(nomatch h)⟩
theorem cf4 {es : List Expr} : JTs X es tNo:=fun pins s σ H Q I ⟨ρ,b,h,_⟩=>by cases h
theorem af0 (hu : X.A.units + 64 < cLine) : ∀ op : CmpOp,OpD X (compareOp op) (bb0 op)
 | .Lt=>cq6 | .LtE=>cq7 | .Gt=>cr0 | .GtE=>cr1 | .Eq=>cr2 hu | .NotEq=>cq5 hu | .Is=>cq8 | .IsNot=>bx1 | .In=>cq9 hu | .NotIn=>bx0 hu
theorem bw9 (hu : X.A.units + 64 < cLine) (S : Sg) (c : Kx) (op : CmpOp) (b : Expr) : OpD X (compareOp op) (opW S c op b):=by
 unfold opW
 split
 ·split
  ·exact cd3
  ·exact bl0
  ·exact af0 hu _
 ·exact af0 hu op
theorem aE6 {f : Expr → DE} (h : ∀ e,JE X e (f e)) : ∀ es,JA X es (evA f es)
 | []=>cj3
 | e :: es=>by
  unfold evA
  split
  ·rename_i p; exact bO8 (h e) (aE6 h es) (G8 p es _)
  ·exact cs5
theorem aK1 {f : Expr → DE} (h : ∀ e,JE X e (f e)) (op : BoolOp) (pos : Pos) : ∀ vs,JE X (.BoolOp op vs pos) (bD7 f op vs)
 | []=>R5
 | [a]=>ci2 (h a)
 | a :: b :: r=>by
  unfold bD7
  cases op
  ·exact cj0 (h a) (aK1 h .And pos (b :: r))
  ·exact cs1 (h a) (aK1 h .Or pos (b :: r))
theorem aK0 {f : Expr → DT} (h : ∀ e,JT X e (f e)) (op : BoolOp) (pos : Pos) : ∀ vs,JW X (.BoolOp op vs pos) (bD6 f op vs)
 | []=>cr8
 | [a]=>by cases op; exact bM1 (h a); exact cf2 (h a)
 | a :: b :: r=>by
  unfold bD6
  cases op
  ·exact cf3 (h a) (aK0 h .And pos (b :: r))
  ·exact cr7 (h a) (aK0 h .Or pos (b :: r))
theorem aj2 {f : Expr → DE} (h : ∀ e,JE X e (f e)) : ∀ o,JO X o (evO f o)
 | none=>bN2
 | some e=>bN1 (h e)
theorem cf5 {f : Expr → DT} (h : ∀ e,JT X e (f e)) : ∀ l,JTs X l (bD4 f l)
 | []=>bM3
 | [t]=>bM2 (h t)
 | _ :: _ :: _=>cf4
theorem bA5 {f : Expr → DG} (h : ∀ e,JG X e (f e)) : ∀ es,es.all pl = true → JGs X es (ck4 f es)
 | [],_=>bN7
 | e :: es,p=>by
  simp only [List.all_cons,Bool.and_eq_true] at p
  refine bA6 (h e) (bA5 h es p.2) ?_
  have p1:=p.1
  cases e <;> first | rfl | cases p1
theorem bh6 {env : Env} : ∀ {es : List Expr},es.all pl = true → (assignEach es env).length = es.length ∧ (assignEach es env).findIdx? (·.1) = none
 | [],_=>⟨rfl,rfl⟩
 | e :: es,p=>by
  simp only [List.all_cons,Bool.and_eq_true] at p
  obtain ⟨h1,h2⟩:=bh6 (env:=env) p.2
  have p1:=p.1
  have q : assignEach (e :: es) env = (false,assign e env) :: assignEach es env:=by cases e <;> first | rfl | cases p1
  rw [q]
  refine ⟨by simp [h1],?_⟩
  simp [List.findIdx?_cons,h2]
structure Sound (S : Sg) (r : Ev) : Prop where
 e : ∀ {c X},Fit S c X → ∀ ex,JE X ex (r.e c ex)
 q : ∀ {c X},Fit S c X → ∀ ex,JQ X ex (r.q c ex)
 n : ∀ {c X},Fit S c X → ∀ ex,JN X ex (r.n c ex)
 t : ∀ {c X},Fit S c X → ∀ ex,JT X ex (r.t c ex)
 g : ∀ {c X},Fit S c X → ∀ ex,JG X ex (r.g c ex)
 b : ∀ {c X},Fit S c X → ∀ sts,JSs X sts (r.b c sts)
theorem Fit.hx (F : Fit S c X) : ∀ e s,X.xe e s → False:=fun e s h=>by rw [F.xe] at h; exact h
theorem Fit.po (F : Fit S c X) : PassesOwn (model X.prog X.w) X.A X.env X.xe:=by rw [F.xe]; exact PassesOwn.never
theorem Fit.slot (F : Fit S c X) {x : Str} {i : Nat} (h : al2 x c.N = some i) : X.N[i]? = some x:=by rw [F.N]; exact aR2 h
theorem Fit.inner {tn : List Str} {caps : List Nat} {scope : Scope} {C : Addr} {s0 : Shared} {H0 : Hp} {ex : List Addr} (F : Fit S c X) (hn : (G.inner c tn caps scope).N.Nodup) : Fit S (G.inner c tn caps scope) (G4 X (G.inner c tn caps scope).N scope C s0 H0 ex) :=
 ⟨rfl,by show relabel scope X.env = rl scope c.sc; rw [← F.sc]; rfl,hn,F.calm,rfl,F.units,(fun h=>by cases h),F.fns,F.css,F.bls⟩
variable {r : Ev}
theorem ch4 (R : Sound S r) (F : Fit S c X) (tg a : Expr) {p pos : Pos} (hg : Gl X "reversed") (hm : X.mg "reversed" = none) : JI X tg (.Call (.Name "reversed" p) [a] [] pos) (evR S r c tg a):=by
 unfold evR
 split
 ·split
  ·rename_i h
   simp only [Bool.and_eq_true] at h
   obtain ⟨rfl,h1,h2⟩:=M7 F h.1.1.1
   obtain ⟨rfl,h3,h4⟩:=M7 F h.1.1.2
   have ht:=h.1.2
   cases tg <;> first | (exact bN5 h3 h4 h1 h2 hg hm F.calm (R.e F _) (G8 h.2 _ _)) | (exact nomatch ht)
  ·exact fun ρ ds q=>nomatch q
 ·exact fun ρ ds q=>nomatch q
theorem bS9 (R : Sound S r) (F : Fit S c X) (tg it : Expr) : JI X tg it (evI S r c tg it):=by
 unfold evI
 split
 ·rename_i x p a pos
  split
  ·rename_i h
   obtain ⟨rfl,h1,h2⟩:=M7 F h
   exact ch4 R F tg a h1 h2
  ·split
   ·rename_i h
    simp only [Bool.and_eq_true] at h
    obtain ⟨rfl,h1,h2⟩:=M7 F h.1
    exact bn2 h1 h2 (R.e F a) (G8 h.2 _ _)
   ·split
    ·rename_i h
     simp only [Bool.and_eq_true] at h
     obtain ⟨rfl,h1,h2⟩:=M7 F h.1.1
     have ht:=h.1.2
     cases tg <;> first | (exact bN6 h1 h2 (R.e F a) (G8 h.2 _ _)) | (exact nomatch ht)
    ·exact aY9 (R.e F _)
 ·rename_i x p a b pos
  split
  ·rename_i h
   simp only [Bool.and_eq_true] at h
   obtain ⟨rfl,h1,h2⟩:=M7 F h.1.1
   exact bn1 h1 h2 (R.e F a) (R.e F b) (by rw [G8 h.1.2,G8 h.2]; rfl) (G8 h.2 _ _)
  ·split
   ·rename_i h
    simp only [Bool.and_eq_true] at h
    obtain ⟨rfl,h1,h2⟩:=M7 F h.1.1.1
    have ht:=h.1.1.2
    cases tg <;> first | (exact ch2 h1 h2 (R.e F a) (R.e F b) (by rw [G8 h.1.2,G8 h.2]; rfl) (G8 h.2 _ _)) | (exact nomatch ht)
   ·exact aY9 (R.e F _)
 ·split
  ·exact ch3 (R.e F _)
  ·exact aY9 (R.e F _)
theorem bh1 (R : Sound S r) (F : Fit S c X) {elt tgt iter : Expr} {ifs : List Expr} {scope : Scope} {caps : List Nat}
  (h : (av7 c.N (G.inner c (W0 tgt) caps scope).N (W0 tgt).length caps c.sc scope && as3 (G.inner c (W0 tgt) caps scope).N && pl iter) = true) :
  CompSc X (G.inner c (W0 tgt) caps scope).N (W0 tgt).length caps scope ∧ JI X tgt iter (evI S r c tgt iter) ∧ (∀ C s0 H0 ex,JG (G4 X (G.inner c (W0 tgt) caps scope).N scope C s0 H0 ex) tgt (r.g (G.inner c (W0 tgt) caps scope) tgt)) ∧
  (∀ C s0 H0 ex,JTs (G4 X (G.inner c (W0 tgt) caps scope).N scope C s0 H0 ex) ifs (bD4 (r.t (G.inner c (W0 tgt) caps scope)) ifs)) ∧ (∀ C s0 H0 ex,JE (G4 X (G.inner c (W0 tgt) caps scope).N scope C s0 H0 ex) elt (r.e (G.inner c (W0 tgt) caps scope) elt)) ∧
  ∀ x,foldedSetIterable iter X.env x = pure x:=by
 simp only [Bool.and_eq_true] at h
 obtain ⟨⟨h1,h2⟩,h3⟩:=h
 have hn:=as2 h2
 exact ⟨bp8 h1 F.N F.sc,bS9 R F tgt iter,fun C s0 H0 ex=>R.g (F.inner hn) tgt,fun C s0 H0 ex=>cf5 (R.t (F.inner hn)) ifs,fun C s0 H0 ex=>R.e (F.inner hn) elt,be7 h3 _⟩
theorem cs0 (R : Sound S r) (F : Fit S c X) (ex : Expr) : JN X ex (evC S r c ex):=by
 unfold evC
 split
 ·rename_i elt tgt iter ifs scope pos
  dsimp only
  split
  ·rename_i h
   obtain ⟨h1,h2,h3,h4,h5,h6⟩:=bh1 (ifs:=ifs) (elt:=elt) R F h
   exact bN4 h1 F.hx h2 h3 h4 h5 F.calm h6
  ·exact aE5
 ·exact aE5
theorem bi6 {x : Str} {T : String} (h : bU6 x = some T) : bootBuiltins x = some (.type T) ∧ x ≠ "__name__" ∧ (x == ("__debug__" : Str)) = false:=by
 unfold bU6 at h
 split at h
 ·rename_i e; cases h; simp only [beq_iff_eq] at e; subst e; exact ⟨bb6,by decide,by decide⟩
 ·split at h
  ·rename_i e; cases h; simp only [beq_iff_eq] at e; subst e; exact ⟨bQ1,by decide,by decide⟩
  ·split at h
   ·rename_i e; cases h; simp only [beq_iff_eq] at e; subst e; exact ⟨bb3,by decide,by decide⟩
   ·split at h
    ·rename_i e; cases h; simp only [beq_iff_eq] at e; subst e; exact ⟨aT9,by decide,by decide⟩
    ·split at h
     ·rename_i e; cases h; simp only [beq_iff_eq] at e; subst e; exact ⟨bh5,by decide,by decide⟩
     ·cases h
theorem be8 {e : Expr} (h : pl e = true) (pos : Pos) (env : Env) : (backTo pos (starEach [e] env)).any (·.1) = false:=by
 rw [G8 h]; rfl
theorem ak7 (pos : Pos) (env : Env) : ∀ {es : List Expr},es.all pl = true → (starEach es env).any (·.1) = false
 | [],_=>rfl
 | e :: es,h=>by
  simp only [List.all_cons,Bool.and_eq_true] at h
  rw [G8 h.1,List.any_cons,ak7 pos env h.2]; rfl
end
end G
namespace G
open PySem PySem.Spec PyProof.Rows L2
section
variable {X : Cx} {S : Sg} {c : Kx} {r : Ev}
theorem bG2 (R : Sound S r) (F : Fit S c X) (a i : Expr) (pos : Pos) : JE X (.Subscript a i pos) (bU0 r c a i):=by
 unfold bU0
 split
 ·split
  ·exact bA9 (R.e F _) (aj2 (R.e F) _) (aj2 (R.e F) _)
  ·split
   ·exact ch9 (R.e F _) (aj2 (R.e F) _) (aj2 (R.e F) _)
   ·split
    ·exact ci0 (R.q F _) (aj2 (R.e F) _) (aj2 (R.e F) _)
    ·exact ci1 (R.e F _) (aj2 (R.e F) _) (aj2 (R.e F) _)
 ·exact bO0 (R.e F _) (bB0 bB3)
 ·split
  ·rename_i h
   split
   ·exact ci5 (R.e F _) (R.e F _) (bR9 h)
   ·exact cs2 (R.q F _) (R.e F _) (bR9 h)
  ·exact R5
theorem bi4 (R : Sound S r) (F : Fit S c X) (x : Str) (a : Expr) (p pos : Pos) : JE X (.Call (.Name x p) [a] [] pos) (aV5 S r c x a):=by
 unfold aV5
 split
 ·exact R5
 rename_i hp
 have hp : pl a = true:=by simpa using hp
 have hs:=G8 hp [] X.env
 split
 ·rename_i h
  obtain ⟨rfl,h1,h2⟩:=M7 F h
  split
  ·rename_i y py e ppos
   split
   ·rename_i hy
    simp only [Bool.and_eq_true] at hy
    obtain ⟨rfl,g1,g2⟩:=M7 F hy.1
    exact bn3 h1 h2 g1 g2 (R.q F _) F.calm (G8 hy.2 _ _)
   ·exact bB1 h1 h2 (R.q F _) hs
  ·split
   ·exact bO5 h1 h2 (R.e F a) hs
   ·exact bB1 h1 h2 (R.q F a) hs
 split
 ·rename_i h; obtain ⟨rfl,h1,h2⟩:=M7 F h; exact bN9 h1 h2 (R.q F a) hs
 split
 ·rename_i h; obtain ⟨rfl,h1,h2⟩:=M7 F h; exact cj1 h1 h2 (R.q F a) F.calm hs
 split
 ·rename_i h; obtain ⟨rfl,h1,h2⟩:=M7 F h; exact bB2 h1 h2 (R.e F a) hs
 split
 ·rename_i h; obtain ⟨rfl,h1,h2⟩:=M7 F h; exact bA8 h1 h2 (R.e F a) hs
 split
 ·rename_i h; obtain ⟨rfl,h1,h2⟩:=M7 F h; exact cj2 h1 h2 (R.e F a) hs
 split
 ·rename_i h; obtain ⟨rfl,h1,h2⟩:=M7 F h; exact bO1 h1 h2 (R.q F a) F.calm hs
 split
 ·rename_i h; obtain ⟨rfl,h1,h2⟩:=M7 F h; exact bO3 h1 h2 (R.q F a) F.calm hs
 exact R5
theorem bi3 (R : Sound S r) (F : Fit S c X) (x : Str) (a b : Expr) (p pos : Pos) : JE X (.Call (.Name x p) [a,b] [] pos) (aV4 S r c x a b):=by
 unfold aV4
 split
 ·exact R5
 rename_i hp
 have hp : pl a = true:=by simpa using hp
 split
 ·rename_i h
  obtain ⟨rfl,h1,h2⟩:=M7 F h
  split
  ·rename_i y py
   split
   ·rename_i T hT
    split
    ·rename_i hy
     obtain ⟨_,g1,g2⟩:=M7 F hy
     obtain ⟨t1,t2,t3⟩:=bi6 hT
     exact ci6 h1 h2 g1 g2 t1 (R.e F a) t2 t3 (G8 hp _ _) rfl rfl
    ·exact R5
   ·exact R5
  ·exact R5
 split
 ·exact R5
 rename_i hb
 have hb : pl b = true:=by simpa using hb
 split
 ·rename_i h; obtain ⟨rfl,h1,h2⟩:=M7 F h; exact bO2 h1 h2 (R.e F a) (R.e F b) F.calm (G8 hp _ _) (G8 hb _ _) (be8 hb pos _)
 split
 ·rename_i h; obtain ⟨rfl,h1,h2⟩:=M7 F h; exact bO4 h1 h2 (R.e F a) (R.e F b) F.calm (G8 hp _ _) (G8 hb _ _) (be8 hb pos _)
 exact R5
theorem aA4 (pos : Pos) : ∀ l : List (Bool × Sem Value),(backTo pos l).any (·.1) = l.any (·.1)
 | []=>rfl
 | (b,t) :: r=>by
  have ih:=aA4 pos r
  unfold backTo at ih ⊢
  rw [xmc,List.any_cons,List.any_cons,ih]
theorem bs9 (R : Sound S r) (F : Fit S c X) (x : Str) (args : List Expr) (p pos : Pos) : JE X (.Call (.Name x p) args [] pos) (bt0 S r c x args (.Call (.Name x p) args [] pos)):=by
 unfold bt0
 split
 ·rename_i Fn n hl
  split
  ·rename_i h
   simp only [Bool.and_eq_true,beq_iff_eq] at h
   obtain ⟨⟨hg,hn⟩,hp⟩:=h
   obtain ⟨g1,g2⟩:=aK3 F hg
   rcases F.fns _ _ _ hl with ⟨k,f,fd,ps,hk,hr,hm,hkp,hb⟩ | ⟨hm,hb⟩
   case inr =>
    cases args with
    | nil=>cases hn; exact absurd hb.1 (Nat.lt_irrefl _)
    | cons e es =>
     simp only [List.all_cons,Bool.and_eq_true] at hp
     exact cs4 hb F.units g1 hm (aE6 (R.e F) (e :: es)) hn g2 (G8 hp.1 _ _) ((aA4 pos _).trans (ak7 pos _ hp.2))
   cases args with
   | nil=>cases hn; exact bB5 hk hr g1 hm hkp hb g2
   | cons e es =>
    simp only [List.all_cons,Bool.and_eq_true] at hp
    exact bO7 hk hr g1 hm hkp hb (aE6 (R.e F) (e :: es)) hn g2 (G8 hp.1 _ _) ((aA4 pos _).trans (ak7 pos _ hp.2))
  ·exact R5
 ·split
  ·split
   ·exact ay7 (R.n F _)
   ·exact bi4 R F _ _ _ _
  ·exact bi3 R F _ _ _ _ _
  ·exact R5
theorem cn1 (R : Sound S r) (F : Fit S c X) (ex : Expr) : JE X ex (xE S r c ex):=by
 have hu:=F.units
 unfold xE
 split
 ·exact ci4
 ·exact cs3
 ·exact bB3
 ·exact ch8
 ·split
  ·rename_i i h
   split
   ·rename_i v; obtain ⟨h1,h2,h3⟩:=au7 F v; exact ch6 i (F.slot h) h1 h2 h3
   ·exact R5
  ·split
   ·rename_i d hd
    split
    ·rename_i g; obtain ⟨u,k1,k2⟩:=F.css _ _ hd; obtain ⟨g1,g2⟩:=aK3 F g; exact ci8 k1 g1 k2 g2
    ·exact R5
   ·exact R5
 ·split
  ·rename_i h; exact ch7 (aE6 (R.e F) _) h
  ·exact R5
 ·exact ay7 (R.n F _)
 ·exact ay7 (R.n F _)
 ·split
  ·exact n4 bx2 (R.e F _) (R.e F _)
  ·exact n4 bK5 (R.e F _) (R.e F _)
 ·exact n4 cc8 (R.e F _) (R.e F _)
 ·split
  ·exact n4 aI7 (R.e F _) (R.e F _)
  ·split
   ·split
    ·exact n4 bK4 (R.e F _) (R.e F _)
    ·exact n4 bf3 (R.e F _) (R.e F _)
   ·exact n4 bf3 (R.e F _) (R.e F _)
 ·exact n4 cd4 (R.e F _) (R.e F _)
 ·exact n4 cd1 (R.e F _) (R.e F _)
 ·exact n4 cc9 (R.e F _) (R.e F _)
 ·exact bB0 (R.e F _)
 ·exact ci3 (R.e F _)
 ·split
  ·rename_i h; exact ci9 (bw9 hu S c _ _) (R.e F _) (R.e F _) (au9 h _)
  ·exact R5
 ·split
  ·rename_i h; exact bB4 (af0 hu _) (af0 hu _) (R.e F _) (R.e F _) (R.e F _) (au9 h _)
  ·exact R5
 ·exact aK1 (R.e F) _ _ _
 ·exact ci7 (R.t F _) (R.e F _) (R.e F _)
 ·exact bG2 R F _ _ _
 ·split
  ·rename_i h
   simp only [Bool.and_eq_true,beq_iff_eq] at h
   obtain ⟨⟨⟨hm,hn⟩,hl⟩,hp⟩:=h
   subst hm
   have hs:=G8 hp [] X.env
   exact bO6 (R.e F _) (R.q F _) (aQ1 hn _ _ _) (by rw [hs]; rfl) (by simpa using hl) hs
  ·exact R5
 ·exact bs9 R F _ _ _ _
 ·exact R5
theorem cm8 (R : Sound S r) (F : Fit S c X) (ex : Expr) : JQ X ex (xQ S r c ex):=by
 unfold xQ
 split
 ·split
  ·rename_i i h
   split
   ·rename_i v; obtain ⟨h1,h2,h3⟩:=au7 F v; exact cg8 i (F.slot h) h1 h2 h3
   ·exact bS7
  ·exact bA4 (R.e F _)
 ·exact cg9 (R.n F _)
 ·exact cg9 (R.n F _)
 ·split
  ·exact cg9 (R.n F _)
  ·exact bA4 (R.e F _)
 ·exact bA4 (R.e F _)
theorem cm9 (R : Sound S r) (F : Fit S c X) (ex : Expr) : JN X ex (xN S r c ex):=by
 unfold xN
 split
 ·split
  ·rename_i h; exact ch0 (aE6 (R.e F) _) h
  ·exact aE5
 ·exact cs0 R F _
 ·split
  ·rename_i h
   simp only [Bool.and_eq_true] at h
   obtain ⟨rfl,h1,h2⟩:=M7 F h.1
   exact bN3 h1 h2 (R.q F _) (G8 h.2 _ _)
  ·exact aE5
 ·exact ch1 (R.q F _) (R.q F _)
 ·exact aE5
theorem cm6 (R : Sound S r) (F : Fit S c X) (ex : Expr) : JT X ex (xT S r c ex):=by
 have hu:=F.units
 unfold xT
 split
 ·split
  ·rename_i h; exact cf8 (bw9 hu S c _ _) (R.e F _) (R.e F _) (au9 h _)
  ·exact bg0
 ·split
  ·rename_i h; exact bz8 (af0 hu _) (af0 hu _) (R.e F _) (R.e F _) (R.e F _) (au9 h _)
  ·exact bg0
 ·exact bz7 (aK0 (R.t F) _ _ _)
 ·exact cf7 (R.t F _)
 ·split
  ·rename_i h; exact cf6 (R.e F _) (bw0 h _)
  ·exact bg0
theorem cn0 (R : Sound S r) (F : Fit S c X) (ex : Expr) : JG X ex (xG r c ex):=by
 unfold xG
 split
 ·split
  ·rename_i i h
   split
   ·rename_i v; obtain ⟨h1,h2⟩:=bf9 F v; exact bN8 i (by rw [F.N]; exact F.nd) (F.slot h) h1 h2
   ·exact aR1
  ·exact aR1
 ·split
  ·rename_i h
   obtain ⟨h1,h2⟩:=bh6 (env:=X.env) h
   exact ch5 (bA5 (R.g F) _ h) F.calm h1 h2
  ·exact aR1
 ·exact aR1
theorem bg1 {st : Stmt} {f : DS} (h : ∀ ρ,f ρ = none) : JS X st f:=fun ρ fl q=>by rw [h ρ] at q; cases q
theorem bF1 (F : Fit S c X) (h : c.df = true) : X.env.blockKind = .function:=by
 unfold Env.blockKind
 rw [F.sc,(F.df h).2]; rfl
theorem aD3 (elt : Expr) (gens : List Comprehension) (sc : Scope) (pv p' : Pos) (x : Str) (l : Nat) (env : Env) : swapsWith (.ListComp elt gens sc pv) (some (.Name x p')) l env =
  pure (env.blockKind == .function && env.kindOf x == some .local && p'.line == pv.line && !(sc.names.any fun (n,k)=>n == x && (k == .local || k == .cell))):=rfl
theorem bg2 (R : Sound S r) (F : Fit S c X) {x : Str} {p' pv p : Pos} {elt : Expr} {gens : List Comprehension} {sc : Scope} {i : Nat} (hi : al2 x c.N = some i) (hl : (c.sc.names.lookup x == some .local) = true)
  (h : (c.df && p'.line == pv.line && !(sc.names.any fun (n,k)=>n == x && (k == .local || k == .cell))) = true) :
  JS X (.Assign [.Name x p'] (.ListComp elt gens sc pv) p) (U4 i (evC S r c (.ListComp elt gens sc pv))) ∧ JS X (.Assign [.Name x p'] (.ListComp elt gens sc pv) p) (P7 i (evC S r c (.ListComp elt gens sc pv))):=by
 unfold evC
 simp only [Bool.and_eq_true] at h
 have hl' : X.env.scope.names.lookup x = some .local:=by rw [F.sc]; simpa using hl
 have hsw : swapsWith (.ListComp elt gens sc pv) (some (.Name x p')) p.line X.env = pure true:=by
  rw [aD3,bF1 F h.1.1,h.1.2,h.2]
  unfold Env.kindOf
  rw [hl']; rfl
 split
 ·rename_i elt tgt iter ifs scope pos he
  cases he
  dsimp only
  split
  ·rename_i hc
   obtain ⟨h1,h2,h3,h4,h5,h6⟩:=bh1 (ifs:=ifs) (elt:=elt) R F hc
   exact ⟨bM7 i (by rw [F.N]; exact F.nd) h1 F.hx h2 h3 h4 h5 (F.slot hi) hl' hsw F.calm h6,bM9 i (by rw [F.N]; exact F.nd) h1 F.hx h2 h3 h4 h5 (F.slot hi) hl' hsw F.calm h6⟩
  ·exact ⟨bg1 fun ρ=>rfl,bg1 fun ρ=>rfl⟩
 ·exact ⟨bg1 fun ρ=>rfl,bg1 fun ρ=>rfl⟩
theorem bG4 (R : Sound S r) (F : Fit S c X) (tg v : Expr) (p : Pos) : JS X (.Assign [tg] v p) (bU2 S r c tg v p):=by
 have nd : X.N.Nodup:=by rw [F.N]; exact F.nd
 unfold bU2
 split
 ·rename_i x p'
  split
  ·exact J9
  ·rename_i i hi
   split
   ·exact J9
   ·rename_i hlo
    have hlo : bz2 c x = true:=by simpa using hlo
    obtain ⟨l1,l2⟩:=bf9 F hlo
    split
    ·rename_i elt gens sc pv
     split
     ·rename_i hl
      split
      ·rename_i h
       split
       ·exact (bg2 R F hi hl h).1
       ·exact (bg2 R F hi hl h).2
      ·exact J9
     ·rename_i hl
      refine bA1 i nd (R.e F _) (F.slot hi) l1 ?_ l2
      rw [aD3]
      have : (X.env.kindOf x == some .local) = false:=by
       unfold Env.kindOf
       rw [F.sc]; simpa using hl
      rw [this,Bool.and_false]; rfl
    ·split
     ·exact J9
     ·rename_i hc
      have hc : isC v = false:=by simpa using hc
      split
      ·exact cg2 i nd (R.n F _) (F.slot hi) l1 (ay5 hc _ _ _) l2
      ·exact bA1 i nd (R.e F _) (F.slot hi) l1 (ay5 hc _ _ _) l2
 ·split
  ·exact J9
  ·rename_i i hi
   split
   ·rename_i h
    simp only [Bool.and_eq_true,Bool.not_eq_true'] at h
    obtain ⟨h1,h2,h3⟩:=au7 F h.1
    exact cf9 i (R.n F _) (aj2 (R.e F) _) (aj2 (R.e F) _) (F.slot hi) h1 h2 h3 (ay5 h.2 _ _ _)
   ·exact J9
 ·rename_i x px y py kt pt
  split
  ·rename_i a b k2 p2
   split
   ·rename_i i j hi hj
    split
    ·rename_i h
     unfold cp9 at h
     simp only [Bool.and_eq_true,Bool.not_eq_true',beq_iff_eq] at h
     obtain ⟨⟨⟨⟨⟨⟨⟨⟨hd,ha⟩,hb⟩,hxy⟩,hl⟩,hx⟩,hy⟩,hf⟩,hcs⟩:=h
     have hx' : X.env.scope.names.lookup x = some .local:=by rw [F.sc]; exact hx
     have hy' : X.env.scope.names.lookup y = some .local:=by rw [F.sc]; exact hy
     have hne : i ≠ j:=fun z=>by
      subst z
      have:=(F.slot hi).symm.trans (F.slot hj)
      cases this
      simp at hxy
     refine cg1 nd (aE6 (R.e F) [a,b]) ?_ hne (F.slot hi) (F.slot hj) hx' hy' F.calm rfl
     have kx : X.env.kindOf x = some .local:=hx'
     have ky : X.env.kindOf y = some .local:=hy'
     have st : ∀ e : Expr,pl e = true → (match e with | .Starred ..=>true | _=>false) = false:=fun e he=>by cases e <;> first | rfl | cases he
     have sa:=st a ha
     have sb:=st b hb
     have hyx : (y == x) = false:=by
      cases q : (y == x) with
      | false=>rfl
      | true=>simp only [beq_iff_eq] at q; subst q; simp at hxy
     simp only [swappedStores,List.length_cons,List.length_nil,List.head?_cons,xms,Option.getD_some,Expr.pos,List.filterMap_cons,List.filterMap_nil,kx,ky,bF1 F hd,hf,hcs,hl,sa,sb,List.any_cons,List.any_nil]
     simp [List.eraseDups,List.eraseDupsBy,List.eraseDupsBy.loop,hxy,hyx]
     intro z
     rcases z with z | z
     ·cases a <;> first | exact absurd (show false = true from z) Bool.false_ne_true | exact nomatch ha
     ·cases b <;> first | exact absurd (show false = true from z) Bool.false_ne_true | exact nomatch hb
    ·exact J9
   ·exact J9
  ·exact J9
  ·rename_i h1 h2
   refine bA2 (R.e F _) (R.g F _) ?_ ?_ rfl
   ·cases v <;> rfl
   ·cases v <;> first | rfl | exact (h2 _ _ _ rfl).elim
 ·rename_i es kt pt _
  split
  ·exact J9
  ·rename_i h
   refine bA2 (R.e F _) (R.g F _) ?_ ?_ rfl
   ·cases v <;> rfl
   ·cases v <;> first | rfl | skip
    rename_i vs k3 p3
    have h : (es.length == 2 || es.length == 3) = false:=by simpa [aR6] using h
    unfold swappedStores
    simp only [h,xnf,Bool.true_or,if_true]
 ·exact J9
end
end G
namespace G
open PySem PySem.Spec PyProof.Rows L2
section
variable {X : Cx} {S : Sg} {c : Kx} {r : Ev}
theorem bG3 (R : Sound S r) (F : Fit S c X) (x m : Str) (e : Expr) (p apos cpos pos : Pos) (hl : (apos.endLine == cpos.line) = true) : JS X (.Expr (.Call (.Attribute (.Name x p) m apos) [e] [] cpos) pos) (bU1 r c x m e):=by
 unfold bU1
 split
 ·exact J9
 ·rename_i i hi
  split
  ·rename_i h
   simp only [Bool.and_eq_true] at h
   obtain ⟨h1,h2,h3⟩:=au7 F h.1
   have hs:=G8 h.2 [] X.env
   split
   ·rename_i hm
    simp only [beq_iff_eq] at hm
    subst hm
    exact cg7 i (R.e F e) (F.slot hi) h1 h2 h3 rfl (by rw [hs]; rfl) hl hs rfl
   ·split
    ·rename_i hm
     simp only [beq_iff_eq] at hm
     subst hm
     exact cg5 i (R.e F e) (F.slot hi) h1 h2 h3 hl hs
    ·exact J9
  ·exact J9
theorem bs8 (R : Sound S r) (F : Fit S c X) (st : Stmt) : JS X st (xS0 S r c st):=by
 unfold xS0
 split
 ·exact cg0 (R.e F _)
 ·exact cr9 (R.t F _) (R.b F _) (R.b F _)
 ·exact bA0 (R.t F _) (R.b F _) F.po
 ·split
  ·rename_i h; exact cg4 (bS9 R F _ _) (R.g F _) (R.b F _) F.po F.calm (be7 h _)
  ·exact J9
 ·exact bG4 R F _ _ _
 ·split
  ·rename_i h; exact bG3 R F _ _ _ _ _ _ _ h
  ·exact J9
 ·exact bM8
 ·exact cg6
 ·exact bM6
 ·exact J9
theorem bD2 {st : Stmt} : ∀ (l : List Nat) {g : DS},JS X st g → JS X st (l.foldl (fun g i=>ak6 i g) g)
 | [],_,h=>h
 | i :: l,_,h=>bD2 l (cg3 i h)
theorem cm7 (R : Sound S r) (F : Fit S c X) (st : Stmt) : JS X st (xS S r c st):=by
 unfold xS fzW
 split
 ·exact bs8 R F st
 ·exact bD2 _ (bs8 R F st)
theorem bD5 {f : Stmt → DS} (h : ∀ st,JS X st (f st)) : ∀ sts,JSs X sts (evB f sts)
 | []=>bM5
 | [s]=>bM4 (h s)
 | s :: t :: T2=>bz9 (h s) (bD5 h (t :: T2))
theorem bG8 (R : Sound S r) : Sound S (step S r) :=
 ⟨fun F=>cn1 R F,fun F=>cm8 R F,fun F=>cm9 R F,fun F=>cm6 R F,fun F=>cn0 R F,fun F=>bD5 (cm7 R F)⟩
theorem bT2 (S : Sg) : ∀ n,Sound S (ev S n)
 | 0=>⟨fun _ _=>R5,fun _ _=>bS7,fun _ _=>aE5,fun _ _=>bg0,fun _ _=>aR1,fun _ _ ρ fl q=>by cases q⟩
 | n + 1=>bG8 (bT2 S n)
end
structure Fd where
 x : Str
 st : Stmt
 ps : List Str
 N : List Str
 own : List Nat:=[]
 tx : List Nat:=[]
 old : Bool:=false
 fz : List (Nat × List Nat):=[]
 hc : List ((Nat × Nat) × List Nat):=[]
def Fd.c (d : Fd) : Kx:={ N:=d.N,sc:=J4 d.st,df:=true,own:=d.own,cpt:=[],tx:=d.tx,old:=d.old,fz:=d.fz,hc:=d.hc }
def Fd.okB (d : Fd) : Bool:=let sc:=J4 d.st
 sc.kind == .function && !sc.isCoroutine && !sc.isGenerator && as3 d.N && d.N.take d.ps.length == d.ps && (d.ps.all fun x=>match sc.names.lookup x with | some .local=>true | some .cell=>true | _=>false) && sc.names.all fun y=>match y.2 with | .free=>false | _=>true
theorem Fd.sc {d : Fd} (h : d.okB = true) : FnScope d.N d.ps (J4 d.st):=by
 unfold Fd.okB at h
 simp only [Bool.and_eq_true,Bool.not_eq_true',beq_iff_eq,List.all_eq_true] at h
 obtain ⟨⟨⟨⟨⟨⟨h1,h2⟩,h3⟩,h4⟩,h5⟩,h6⟩,h7⟩:=h
 refine ⟨h1,h2,h3,as2 h4,h5,fun x hx=>?_,fun y hy e=>?_⟩
 ·have:=h6 x hx
  split at this
  ·rename_i q; exact .inl q
  ·rename_i q; exact .inr q
  ·cases this
 ·have:=h7 y hy
  rw [e] at this
  cases this
def KF (K : PySem.W.Frag) (x : Str) (st : Stmt) : Prop:=∃ (f : Addr) (oc : Value) (od : Option Addr) (sl : Array (Option Value)) (kV dc pm : Value) (an : Option Addr) (cd ct : Value),
 PySem.W.nsIn K mainGlobals x = some (some (.ref f)) ∧ K.lookup f = some ⟨oc,od,.func (PySem.W.fnOf x x (X1 st) (R9 st) (J4 st) .none kV dc pm an cd ct),sl⟩ ∧ PySem.W.codeIn K cd x = true ∧ PySem.W.keepIn K (.ref f) = true
theorem cr6 {K : PySem.W.Frag} {x : Str} {st : Stmt} {f : Addr} {oc : Value} {od : Option Addr} {sl : Array (Option Value)} {kV dc pm : Value} {an : Option Addr} {cd ct : Value} (a : PySem.W.nsIn K mainGlobals x = some (some (.ref f)))
  (l : K.lookup f = some ⟨oc,od,.func (PySem.W.fnOf x x (X1 st) (R9 st) (J4 st) .none kV dc pm an cd ct),sl⟩) (c : PySem.W.codeIn K cd x = true) (k : PySem.W.keepIn K (.ref f) = true) : KF K x st:=⟨f,oc,od,sl,kV,dc,pm,an,cd,ct,a,l,c,k⟩
abbrev Tab:=List (Str × FnD × Nat)
section
variable {P : Program} {w : World} {K : PySem.W.Frag} {mg : Str → Option Value} {base : Heap} {cs : List (Str × D)} {bl : List Str}
structure Md (K : PySem.W.Frag) (mg : Str → Option Value) (cs : List (Str × D)) (bl : List Str) : Prop where
 ns : ∀ x v,PySem.W.nsIn K mainGlobals x = some (some v) → mg x = some v
 css : ∀ x d,cs.lookup x = some d → ∃ u,aV1 K d u ∧ mg x = some u
 bls : ∀ x,bl.contains x = true → mg x = none
def TOk (P : Program) (w : World) (K : PySem.W.Frag) (mg : Str → Option Value) (base : Heap) (k : Nat) (tab : Tab) : Prop:=∀ x F n,tab.lookup x = some (F,n) → (∃ (f : Addr) (fd : FuncData) (ps : List Str),
 FnOk P w K mg base CX0 k f fd ps (spF K n F) ∧ mg x = some (.ref f) ∧ PySem.W.keepIn K (.ref f) = true ∧ k7 K fd ps []) ∨ (mg x = none ∧ cm4 x F n)
theorem TOk.nil : TOk P w K mg base 0 []:=fun x F n h=>by cases h
theorem TOk.mono {j k : Nat} {tab : Tab} (T : TOk P w K mg base j tab) (h : j ≤ k) : TOk P w K mg base k tab:=fun x F n e =>
 (T x F n e).imp (fun ⟨f,fd,ps,h1,h2,h3,h4⟩=>⟨f,fd,ps,h1.mono h,h2,h3,h4⟩) id
section
variable {P : List Value → Prop}
theorem ua0 (h : P []) : ∀ us : List Value,us.length = 0 → P us
 | [],_=>h
theorem ua1 (h : ∀ a,P [a]) : ∀ us : List Value,us.length = 1 → P us
 | a :: us,e=>ua0 (P:=fun us=>P (a :: us)) (h a) us (Nat.succ.inj e)
theorem ua2 (h : ∀ a b,P [a,b]) : ∀ us : List Value,us.length = 2 → P us
 | a :: us,e=>ua1 (P:=fun us=>P (a :: us)) (h a) us (Nat.succ.inj e)
theorem ua3 (h : ∀ a b c,P [a,b,c]) : ∀ us : List Value,us.length = 3 → P us
 | a :: us,e=>ua2 (P:=fun us=>P (a :: us)) (h a) us (Nat.succ.inj e)
theorem ua4 (h : ∀ a b c d,P [a,b,c,d]) : ∀ us : List Value,us.length = 4 → P us
 | a :: us,e=>ua3 (P:=fun us=>P (a :: us)) (h a) us (Nat.succ.inj e)
end
def Bd (d : Fd) : Prop:=∀ (kV doc pm : Value) (an : Option Addr) (cdv ct : Value) (us : List Value),us.length = d.ps.length → bindArgs (PySem.W.fnOf d.x d.x (X1 d.st) (R9 d.st) (J4 d.st) .none kV doc pm an cdv ct) ⟨us,[]⟩ = pure (d.ps.zip us)
def rd (tab : Tab) (cs : List (Str × D)) (bl : List Str) (d : Fd) : FnD:=F8 ((ev ⟨tab,cs,bl⟩ 99).b d.c (R9 d.st)) d.N.length
theorem aF0 {k : Nat} {tab : Tab} {d : Fd} {f : Addr} {fd : FuncData} (M : Md K mg cs bl) (T : TOk P w K mg base k tab) (ok : d.okB = true) (Fn : Fun K d.x d.x d.st f fd) : FnOk P w K mg base CX0 (k + 1) f fd d.ps (spF K d.ps.length (rd tab cs bl d)):=by
 have Sc:=Fd.sc ok
 refine bP2 (N:=d.N) Fn Sc fun cdv A outer s H E hr=>(bT2 ⟨tab,cs,bl⟩ 99).b (c:=d.c) ?_ _
 refine ⟨rfl,rfl,Sc.nd,rfl,rfl,hr.units,fun _=>⟨fun _=>rfl,Sc.kind⟩,fun x F n h=>?_,M.css,M.bls⟩
 exact (T x F n h).imp (fun ⟨f',fd',ps,h1,h2,h3,h4⟩=>⟨k,f',fd',ps,h1,hr,h2,h3,h4⟩) id
theorem as5 {x : Str} {st : Stmt} (h : KF K x st) (M : Md K mg cs bl) : ∃ (f : Addr) (kV dc pm : Value) (an : Option Addr) (cd ct : Value),Fun K x x st f (PySem.W.fnOf x x (X1 st) (R9 st) (J4 st) .none kV dc pm an cd ct) ∧ mg x = some (.ref f):=by
 obtain ⟨f,oc,od,sl,kV,dc,pm,an,cd,ct,a,l,cc,kk⟩:=h
 exact ⟨f,kV,dc,pm,an,cd,ct,ck2 l cc kk,M.ns _ _ a⟩
theorem TOk.cons {k : Nat} {tab : Tab} {x : Str} {F : FnD} {n : Nat} (T : TOk P w K mg base k tab) (h : ∃ (f : Addr) (fd : FuncData) (ps : List Str),FnOk P w K mg base CX0 k f fd ps (spF K n F) ∧ mg x = some (.ref f) ∧ PySem.W.keepIn K (.ref f) = true ∧ k7 K fd ps []) :
  TOk P w K mg base k ((x,F,n) :: tab):=fun y G m e=>by
 rw [List.lookup_cons] at e
 split at e
 ·rename_i q
  cases e
  simp only [beq_iff_eq] at q
  subst q
  exact .inl h
 ·exact T y G m e
theorem TOk.add {k n : Nat} {tab : Tab} {F : FnD} (T : TOk P w K mg base k tab) (M : Md K mg cs bl) (d : Fd) (h : KF K d.x d.st) (bd : Bd d) (ok : d.okB = true) (hn : d.ps.length = n) (e : rd tab cs bl d = F) : TOk P w K mg base (k + 1) ((d.x,F,n) :: tab):=by
 subst hn e
 obtain ⟨f,kV,dc,pm,an,cd,ct,Fn,hm⟩:=as5 h M
 exact (T.mono (Nat.le_succ k)).cons ⟨f,_,d.ps,aF0 M T ok Fn,hm,Fn.kp,.all (bd kV dc pm an cd ct)⟩
theorem TOk.rec {k n : Nat} {tab : Tab} {F : Nat → FnD} (T : TOk P w K mg base k tab) (M : Md K mg cs bl) (d : Fd) (h : KF K d.x d.st) (bd : Bd d) (ok : d.okB = true) (hn : d.ps.length = n) (e0 : F 0 = fun _=>none) (e : ∀ j,rd ((d.x,F j,n) :: tab) cs bl d = F (j + 1)) (j : Nat) :
  TOk P w K mg base (k + j) ((d.x,F j,n) :: tab):=by
 subst hn
 obtain ⟨f,kV,dc,pm,an,cd,ct,Fn,hm⟩:=as5 h M
 have bb : k7 K _ d.ps []:=.all (bd kV dc pm an cd ct)
 have main : ∀ j,FnOk P w K mg base CX0 (k + j) f (PySem.W.fnOf d.x d.x (X1 d.st) (R9 d.st) (J4 d.st) .none kV dc pm an cd ct) d.ps (spF K d.ps.length (F j)):=fun j=>by
  induction j with
  | zero =>
   rw [e0]
   exact ⟨fun vs H Q E h=>h.1,fun A outer s H args us vs Q E hr e0 hb hv hs=>by obtain ⟨_,Hf,ds,d,_,_,e,_⟩:=hs; cases e⟩
  | succ j ih =>
   rw [← e j]
   exact aF0 M ((T.mono (Nat.le_add_right k j)).cons ⟨f,_,d.ps,ih,hm,Fn.kp,bb⟩) ok Fn
 exact (T.mono (Nat.le_add_right k j)).cons ⟨f,_,d.ps,main j,hm,Fn.kp,bb⟩
theorem TOk.rec3 {k n1 n2 n3 : Nat} {tab : Tab} {F1 F2 F3 : Nat → FnD} (T : TOk P w K mg base k tab) (M : Md K mg cs bl) (d1 d2 d3 : Fd) (h1 : KF K d1.x d1.st) (h2 : KF K d2.x d2.st) (h3 : KF K d3.x d3.st) (q1 : Bd d1) (q2 : Bd d2) (q3 : Bd d3) (ok1 : d1.okB = true) (ok2 : d2.okB = true) (ok3 : d3.okB = true)
  (m1 : d1.ps.length = n1) (m2 : d2.ps.length = n2) (m3 : d3.ps.length = n3) (z1 : F1 0 = fun _=>none) (z2 : F2 0 = fun _=>none) (z3 : F3 0 = fun _=>none)
  (e1 : ∀ j,rd ((d1.x,F1 j,n1) :: (d2.x,F2 j,n2) :: (d3.x,F3 j,n3) :: tab) cs bl d1 = F1 (j + 1)) (e2 : ∀ j,rd ((d1.x,F1 j,n1) :: (d2.x,F2 j,n2) :: (d3.x,F3 j,n3) :: tab) cs bl d2 = F2 (j + 1))
  (e3 : ∀ j,rd ((d1.x,F1 j,n1) :: (d2.x,F2 j,n2) :: (d3.x,F3 j,n3) :: tab) cs bl d3 = F3 (j + 1)) (j : Nat) :
  TOk P w K mg base (k + j) ((d1.x,F1 j,n1) :: (d2.x,F2 j,n2) :: (d3.x,F3 j,n3) :: tab):=by
 subst m1 m2 m3
 obtain ⟨f1,a1,a2,a3,a4,a5,a6,Fn1,hm1⟩:=as5 h1 M
 obtain ⟨f2,c1,c2,c3,c4,c5,c6,Fn2,hm2⟩:=as5 h2 M
 obtain ⟨f3,g1,g2,g3,g4,g5,g6,Fn3,hm3⟩:=as5 h3 M
 have b1 : k7 K _ d1.ps []:=.all (q1 a1 a2 a3 a4 a5 a6)
 have b2 : k7 K _ d2.ps []:=.all (q2 c1 c2 c3 c4 c5 c6)
 have b3 : k7 K _ d3.ps []:=.all (q3 g1 g2 g3 g4 g5 g6)
 have none_ok : ∀ {f : Addr} {fd : FuncData} {ps : List Str},FnOk P w K mg base CX0 (k + 0) f fd ps (spF K ps.length fun _=>none):=fun {f fd ps} =>
  ⟨fun vs H Q E h=>h.1,fun A outer s H args us vs Q E hr e0 hb hv hs=>by obtain ⟨_,Hf,ds,d,_,_,e,_⟩:=hs; cases e⟩
 induction j with
 | zero=>rw [z1,z2,z3]; exact (((T.mono (Nat.le_refl _)).cons ⟨f3,_,d3.ps,none_ok,hm3,Fn3.kp,b3⟩).cons ⟨f2,_,d2.ps,none_ok,hm2,Fn2.kp,b2⟩).cons ⟨f1,_,d1.ps,none_ok,hm1,Fn1.kp,b1⟩
 | succ j ih =>
  have o1:=aF0 M ih ok1 Fn1
  have o2:=aF0 M ih ok2 Fn2
  have o3:=aF0 M ih ok3 Fn3
  rw [e1 j] at o1
  rw [e2 j] at o2
  rw [e3 j] at o3
  exact (((T.mono (Nat.le_add_right k (j + 1))).cons ⟨f3,_,d3.ps,o3,hm3,Fn3.kp,b3⟩).cons ⟨f2,_,d2.ps,o2,hm2,Fn2.kp,b2⟩).cons ⟨f1,_,d1.ps,o1,hm1,Fn1.kp,b1⟩
theorem bM0 {k : Nat} {tab : Tab} {F : FnD} {fa : Addr} {x : Str} (M : Md K mg cs bl) (T : ∀ base : Heap,TOk P w K mg base k tab) (d : Fd) (h : KF K d.x d.st) (bd : Bd d) (ok : d.okB = true) (hp : d.ps = [x]) (e : rd tab cs bl d = F) (hm : mg d.x = some (.ref fa)) :
  ∃ fd : FuncData,(∀ (s : Shared) (u : Value),BindsTo s fd ⟨[u],[]⟩ [(x,u)]) ∧ ∀ base : Heap,FnOk P w K mg base CX0 (k + 1) fa fd [x] (spF K 1 F):=by
 subst e
 obtain ⟨f,kV,dc,pm,an,cd,ct,Fn,hm'⟩:=as5 h M
 cases hm.symm.trans hm'
 refine ⟨PySem.W.fnOf d.x d.x (X1 d.st) (R9 d.st) (J4 d.st) .none kV dc pm an cd ct,fun s u=>.of_eq ?_,fun base=>?_⟩
 ·have:=bd kV dc pm an cd ct [u] (by rw [hp]; rfl)
  rw [hp] at this
  exact this
 ·have:=aF0 M (T base) ok Fn
  rw [hp] at this
  exact this
end
end G
namespace Lk20
open PySem PySem.Spec PyProof.Rows L2 G Sh
def top (i : Nat) : Stmt:=PySem.Challenge.pw_glazework_k20_pictures_known.main.body.getD i (.Pass ⟨0,0,0,0⟩)
abbrev aj8 : Stmt:=top 1
abbrev U3 : Stmt:=top 2
abbrev ak3 : Stmt:=top 3
abbrev w6 : Stmt:=top 4
abbrev ar1 : Stmt:=top 6
abbrev ak4 : Stmt:=top 7
abbrev ak5 : Stmt:=top 8
abbrev ar2 : Stmt:=top 9
abbrev aq2 : Stmt:=top 10
abbrev ad0 : Stmt:=top 11
abbrev aq1 : Stmt:=top 12
abbrev k8 : Stmt:=top 13
abbrev ak1 : Stmt:=top 14
abbrev aq4 : Stmt:=top 15
abbrev aw9 : Stmt:=top 16
abbrev aq3 : Stmt:=top 17
abbrev aj6 : Stmt:=top 18
abbrev m8 : Stmt:=top 19
abbrev ar3 : Stmt:=top 23
abbrev ar4 : Stmt:=top 26
abbrev ak0 : Stmt:=top 27
abbrev ak2 : Stmt:=top 28
abbrev ar6 : Stmt:=top 33
abbrev aj9 : Stmt:=top 34
abbrev ad6 : Stmt:=top 35
abbrev ar7 : Stmt:=top 36
abbrev Q9 : Stmt:=top 37
abbrev R0 : Stmt:=top 38
abbrev W2 : Stmt:=top 39
abbrev ad7 : Stmt:=top 40
abbrev k9 : Stmt:=top 41
abbrev S1 : Stmt:=top 42
abbrev ar5 : Stmt:=top 43
abbrev v9 : Stmt:=top 44
abbrev ax3 : Stmt:=top 46
abbrev ar0 : Stmt:=top 47
abbrev ax1 : Stmt:=top 48
abbrev aq5 : Stmt:=top 50
abbrev aq7 : Stmt:=top 52
abbrev ax0 : Stmt:=top 53
abbrev aq6 : Stmt:=top 54
abbrev aq9 : Stmt:=top 55
abbrev ax2 : Stmt:=top 56
abbrev aq8 : Stmt:=top 57
abbrev ad2 : Stmt:=top 58
abbrev v5 : Stmt:=top 59
abbrev v7 : Stmt:=top 60
abbrev ad3 : Stmt:=top 61
abbrev aH6 : Stmt:=top 62
abbrev aj7 : Stmt:=top 63
abbrev aH7 : Stmt:=top 64
abbrev ad5 : Stmt:=top 65
abbrev v6 : Stmt:=top 66
abbrev v8 : Stmt:=top 67
abbrev ad4 : Stmt:=top 68
abbrev Y9 : Stmt:=top 69
abbrev Y8 : Stmt:=top 70
abbrev Y7 : Stmt:=top 71
abbrev bR5 : Stmt:=top 72
def at4 : DS:=(B5 (G9 (A9 (C1 12) (A5 (A6 0) (A5 (dC (.int 3)) A7))) (A9 L8 (A5 (C2 (A5 (A6 0) A7)) A7))))
def ai1 : List D → Option D:=F8 at4 1
def V7 : DS:=(B4 (sIf (D0 (B6 (C3 (D5 "str" (A6 0)))) (B6 (Y4 (D9 leI leI (dC (.int 1)) (aF3 (A6 0)) (dC (.int 6)))))) (B5 (dC (.bool false))) C7) (B5 (B0 eqD (E4 (D2 1 [] (aR8 (A6 0)) (C9 0) (tB2 (inS true) (A6 0) (dC (.str "abcdefghijklmnopqrstuvwxyz"))) (A6 0))) (E4 A7))))
def S8 : List D → Option D:=F8 V7 1
def ab6 : DS:=(B4 (D3 1 (E4 (A5 (dC (.str "over")) (A5 (dC (.str "multiply")) (A5 (dC (.str "screen")) (A5 (dC (.str "plus")) (A5 (dC (.str "atop")) (A5 (dC (.str "cut")) A7)))))))) (B4 (sIf (tB2 eqD (dIx (B1 0) (dC (.int 0))) (dC (.str "tone"))) (D3 1 (E4 (A5 (dC (.str "turn")) (A5 (dC (.str "grey")) (A5 (dC (.str "round")) A7))))) C7) (B4 (sIf (D0 (B6 (C3 (A9 S8 (A5 (dIx (B1 0) (dC (.int 1))) A7)))) (D0 (B6 (C3 (D5 "str" (dIx (B1 0) (dC (.int 2)))))) (tB2 (inD true) (dIx (B1 0) (dC (.int 2))) (A6 1)))) (B5 (dC (.bool false))) C7) (B5 (G9 (A9 E7 (A5 (dIx (B1 0) (dC (.int 3))) A7)) (D5 "bool" (dIx (B1 0) (dC (.int 4)))))))))
def J1 : List D → Option D:=F8 ab6 2
def K2 (self : List D → Option D) : DS:=(B4 (sIf (D0 (B6 (C3 (D5 "tuple" (A6 0)))) (D0 (tB2 ltI (E5 (B1 0)) (dC (.int 5))) (tB2 (inD true) (dIx (B1 0) (dC (.int 0))) (C2 (A5 (dC (.str "layer")) (A5 (dC (.str "group")) (A5 (dC (.str "tone")) A7))))))) (B5 (dC (.bool false))) C7) (B4 (sIf (B6 (C3 (A9 J1 (A5 (A6 0) A7)))) (B5 (dC (.bool false))) C7) (B4 (sIf (tB2 eqD (dIx (B1 0) (dC (.int 0))) (dC (.str "tone"))) (B5 (B0 eqD (E5 (B1 0)) (dC (.int 5)))) C7) (B4 (sIf (tB2 eqD (dIx (B1 0) (dC (.int 0))) (dC (.str "group"))) (B4 (sIf (D0 (tB2 neD (E5 (B1 0)) (dC (.int 6))) (D0 (tB2 eqD (A6 1) (dC (.int 0))) (B6 (C3 (D5 "tuple" (dIx (B1 0) (dC (.int 5)))))))) (B5 (dC (.bool false))) C7) (B5 (B0 eqD (E4 (D2 1 [1] (F0 (dIx (B1 0) (dC (.int 5)))) (C9 0) (B6 (C3 (A9 self (A5 (A6 0) (A5 (B0 aj5 (A6 1) (dC (.int 1))) A7))))) (A6 0))) (E4 A7)))) C7) (B4 (sIf (D0 (tB2 neD (E5 (B1 0)) (dC (.int 9))) (B6 (C3 (A9 J0 (A5 (dIx (B1 0) (dC (.int 8))) A7))))) (B5 (dC (.bool false))) C7) (B4 (sIf (tB2 neD (E4 (D2 1 [] (F0 (al6 (A6 0) (E3 (dC (.int 5))) (E3 (dC (.int 7))))) (C9 0) (D0 (B6 (C3 (A9 C8 (A5 (A6 0) A7)))) (B6 (Y4 (D9 leI leI (ab3 (dC (.int 9))) (A6 0) (dC (.int 9)))))) (A6 0))) (E4 A7)) (B5 (dC (.bool false))) C7) (B4 (sIf (tB2 isB (dIx (B1 0) (dC (.int 7))) (dC .none)) (B5 (dC (.bool true))) C7) (B4 (sIf (D0 (B6 (C3 (D5 "tuple" (dIx (B1 0) (dC (.int 7)))))) (tB2 neD (E5 (qE (dIx (B1 0) (dC (.int 7))))) (E5 (qE (dIx (qE (dIx (B1 0) (dC (.int 8)))) (dC (.int 2))))))) (B5 (dC (.bool false))) C7) (B5 (B0 eqD (E4 (D2 1 [] (F0 (dIx (B1 0) (dC (.int 7)))) (C9 0) (B6 (C3 (A9 E7 (A5 (A6 0) A7)))) (A6 0))) (E4 A7)))))))))))
def B9 : Nat → List D → Option D
 | 0=>fun _=>none
 | k + 1=>F8 (K2 (B9 k)) 2
def ae7 : DS:=(B4 (P7 1 (D2 1 [] (F0 (A9 (G7 12) (A5 (A6 0) A7))) (C9 0) F7 (dIx (B1 0) (dC (.int 1))))) (B5 (B0 eqD (ah1 (B1 1)) (E5 (B1 1)))))
def L5 : List D → Option D:=F8 ae7 2
def L4 : DS:=(B4 (sIf (D0 (B6 (C3 (D5 "tuple" (A6 0)))) (D0 (tB2 neD (E5 (B1 0)) (dC (.int 3))) (B6 (C3 (D5 "tuple" (dIx (B1 0) (dC (.int 2)))))))) (B5 (dC (.bool false))) C7) (B4 (sIf (tB2 neD (E4 (D2 1 [] (F0 (al6 (A6 0) J8 (E3 (dC (.int 2))))) (C9 0) (D0 (B6 (C3 (A9 C8 (A5 (A6 0) A7)))) (B6 (Y4 (D9 leI leI (dC (.int 1)) (A6 0) (dC (.int 8)))))) (A6 0))) (E4 A7)) (B5 (dC (.bool false))) C7) (B5 (G9 (B0 eqD (E4 (D2 1 [] (F0 (dIx (B1 0) (dC (.int 2)))) (C9 0) (B6 (C3 (A9 (B9 12) (A5 (A6 0) (A5 (dC (.int 3)) A7))))) (A6 0))) (E4 A7)) (A9 L5 (A5 (dIx (B1 0) (dC (.int 2))) A7))))))
def N9 : List D → Option D:=F8 L4 1
def ae6 : DS:=(B4 (D3 1 (G9 (A9 (B9 12) (A5 (A6 0) (A5 (dC (.int 3)) A7))) (A9 L5 (A5 (C2 (A5 (A6 0) A7)) A7)))) (B4 (W3 (F0 (E4 (A5 (C2 (A5 (A9 Q8 (A5 (A6 0) A7)) (A5 (A9 N9 (A5 (A6 0) A7)) A7))) (A5 (C2 (A5 (A9 ai1 (A5 (A6 0) A7)) (A5 (A6 1) A7))) A7)))) (R6 2 (K1 (C9 2) (K1 (C9 3) S6))) (sIf (D0 (B6 (C3 (D5 "bool" (A6 2)))) (tB2 neD (A6 2) (A6 3))) (B5 (dC (.bool false))) C7)) (B5 (dC (.bool true)))))
def Q5 : List D → Option D:=F8 ae6 4
def aW5 : DS:=(D3 1 (A9 u5 (A5 (A6 0) (A5 (dC (.int 0)) (A5 (dC (.int 6)) A7)))))
def aW4 : DS:=(D3 2 (A9 V9 (A5 (A6 0) (A5 (dC (.int 30)) (A5 (dC (.int 4)) (A5 (A6 1) A7))))))
def aW3 : DS:=(D3 3 (B0 C5 (A9 (G7 12) (A5 (dIx (B1 2) (dC (.int 2))) A7)) (E4 (A5 (C2 (A5 (dC (.str "tone")) (A5 (dC (.str "only")) (A5 (dC (.str "grey")) (A5 (C2 (A5 (dC (.int 1)) (A5 (dC (.int 2)) A7))) (A5 (dC (.bool true)) A7)))))) A7))))
def aW2 : DS:=(D3 4 (dIx (B1 3) (A9 B3 (A5 (A6 0) (A5 (dC (.int 22)) (A5 (E5 (B1 3)) A7))))))
def aW1 : DS:=(W3 (K0 (A9 B3 (A5 (A6 0) (A5 (dC (.int 23)) (A5 (dC (.int 4)) A7))))) (C9 5) (D3 4 (C2 (A5 (dC (.str "group")) (A5 (B0 C5 (dIx (B1 1) (dC (.int 5))) (ac0 (dC (.str "abcd")) (A6 5))) (A5 (dC (.str "over")) (A5 (C2 (A5 (dC (.int 1)) (A5 (dC (.int 1)) A7))) (A5 (dC (.bool true)) (A5 (C2 (A5 (A6 4) A7)) A7)))))))))
def aW0 : DS:=(D3 6 (C2 (A5 (dC (.str "group")) (A5 (dC (.str "abc")) (A5 (dC (.str "plus")) (A5 (C2 (A5 (dC (.int 1)) (A5 (dC (.int 2)) A7))) (A5 (dC (.bool false)) (A5 (C2 (A5 (A6 4) (A5 (A6 4) A7))) A7))))))))
def aV9 : DS:=(U4 7 (A5 (A6 2) (A5 (A6 4) (A5 (A6 6) (A5 (C2 (A5 (dC (.int 2)) (A5 (dC (.int 3)) (A5 (C2 (A5 (A6 4) A7)) A7)))) (A5 (C2 (A5 (dC (.int 2)) (A5 (dC (.int 3)) (A5 (C2 (A5 (A6 4) (A5 (dIx (B1 3) (dC (.int 0))) A7))) A7)))) A7))))))
def bu3 : DS:=(T1 7 (A9 (F4 12) (A5 (A6 2) (A5 (A9 B3 (A5 (A6 0) (A5 (dC (.int 24)) (A5 (B0 bk0 (dC (.int 10)) (dC (.int 8))) A7)))) (A5 (A9 B3 (A5 (A6 0) (A5 (dC (.int 25)) (A5 (dC (.int 7)) A7)))) A7)))))
def bu2 : DS:=(T1 7 (A9 (F4 12) (A5 (A6 4) (A5 (A9 B3 (A5 (A6 0) (A5 (dC (.int 26)) (A5 (B0 bk0 (dC (.int 10)) (dC (.int 8))) A7)))) (A5 (A9 B3 (A5 (A6 0) (A5 (dC (.int 27)) (A5 (dC (.int 6)) A7)))) A7)))))
def bu1 : DS:=(T1 7 (C2 (A5 (dIx (B1 2) (dC (.int 0))) (A5 (dIx (B1 2) (dC (.int 1))) (A5 (C2 (A5 (dIx (B1 7) (ab3 (dC (.int 1)))) A7)) A7)))))
def bd7 : DS:=(D3 8 (C2 (A5 (C2 (A5 (dC (.int 1)) (A5 (dC (.int 1)) A7))) (A5 (C2 (A5 (dC (.int 1)) (A5 (dC (.int 1)) A7))) (A5 (C2 (A5 (dC (.int 0)) (A5 (dC (.int 1)) A7))) (A5 (C2 (A5 (dC (.int 0)) (A5 (dC (.int 1)) A7))) A7))))))
def aH2 : DS:=(W3 (F0 (C2 (A5 (C2 (A5 (C2 (A5 (dC (.int 1)) (A5 (dC (.int 2)) A7))) A7)) (A5 (B0 G3 (C2 (A5 (C2 (A5 (dC (.int 1)) (A5 (dC (.int 2)) A7))) A7)) (dC (.int 2))) (A5 (B0 G3 (C2 (A5 (C2 (A5 (dC (.int 1)) (A5 (dC (.int 2)) A7))) A7)) (dC (.int 3))) (A5 (C2 A7) (A5 (dC .none) (A5 (B0 G3 (E4 (A5 (C2 (A5 (dC (.int 1)) (A5 (dC (.int 2)) A7))) A7)) (dC (.int 2))) (A5 (C2 (A5 (C2 (A5 (dC (.int 1)) (A5 (dC (.int 2)) A7))) (A5 (dC .none) A7))) (A5 (C2 (A5 (C2 (A5 (dC (.int 1)) (A5 (dC (.int 2)) A7))) (A5 (C2 (A5 (dC (.int 3)) (A5 (dC (.int 2)) A7))) A7))) A7)))))))))) (C9 9) (T1 7 (C2 (A5 (dC (.str "layer")) (A5 (dC (.str "a")) (A5 (dC (.str "over")) (A5 (C2 (A5 (dC (.int 1)) (A5 (dC (.int 1)) A7))) (A5 (dC (.bool true)) (A5 (dC (.int 0)) (A5 (dC (.int 0)) (A5 (A6 9) (A5 (C2 (A5 (dC (.int 2)) (A5 (dC (.int 1)) (A5 (C2 (A5 (A6 8) (A5 (A6 8) A7))) A7)))) A7))))))))))))
def aH1 : DS:=(U4 7 (aB7 (B1 7) (qN (A5 (C2 (A5 (dC (.str "tone")) (A5 (dC (.str "a")) (A5 (dC (.str "grey")) (A5 (C2 (A5 (dC (.int 1)) (A5 (dC (.int 1)) A7))) (A5 (dC (.bool true)) (A5 (dC (.int 0)) A7))))))) (A5 (C2 (A5 (dC (.str "tone")) (A5 (dC (.str "a")) (A5 (dC (.str "grey")) (A5 (C2 (A5 (dC (.int 1)) (A5 (dC (.int 1)) A7))) A7))))) A7)))))
def bd6 : DS:=(T1 7 (C2 (A5 (dC (.str "tone")) (A5 (dC (.str "a")) (A5 (dC (.str "over")) (A5 (C2 (A5 (dC (.int 1)) (A5 (dC (.int 1)) A7))) (A5 (dC (.bool true)) A7)))))))
def bd5 : DS:=(ak6 7 (B5 (B0 eqD (E4 (D2 1 [] (F0 (A6 7)) (C9 0) (B6 (C3 (A9 Q5 (A5 (A6 0) A7)))) (A6 0))) (E4 A7))))
def bT9 : DS:=(B4 aW5 (B4 aW4 (B4 aW3 (B4 aW2 (B4 aW1 (B4 aW0 (B4 aV9 (B4 bu3 (B4 bu2 (B4 bu1 (B4 bd7 (B4 aH2 (B4 aH1 (B4 bd6 bd5))))))))))))))
def bi0 : List D → Option D:=F8 bT9 10
end Lk20
namespace Lk20
open PySem G L2 Sh
theorem bg4 {n : Nat} {d : D} (g : Gk n d) : (∃ t,K7 "tuple" d = some t) ∧ (∃ t,K7 "str" d = some t) ∧ (∃ t,K7 "bool" d = some t):=by
 cases d <;> first | exact ⟨⟨_,rfl⟩,⟨_,rfl⟩,⟨_,rfl⟩⟩ | (cases n <;> exact g.elim)
theorem az1 {α : Type} (p : α → Bool) (l : List α) : (l.filter fun a=>!p a) = [] ↔ l.all p = true:=by
 rw [List.filter_eq_nil_iff,List.all_eq_true]
 constructor
 ·intro h a ha; have:=h a ha; cases q : p a <;> simp_all
 ·intro h a ha; simp [h a ha]
theorem af2 {n : Nat} {α : Type} {f : α → D} {l : List α} {p : α → Bool} (g : ∀ a ∈ l,Gk n (f a)) (hl : l.length ≤ 64) (hn : n ≤ 60) : eqD (.list ((l.filter fun a=>!p a).map f)) (.list []) = some (.bool (l.all p)) ∧ neD (.list ((l.filter fun a=>!p a).map f)) (.list []) = some (.bool (!l.all p)):=by
 cases h : l.all p with
 | true=>rw [(az1 p l).mpr h]; exact ⟨rfl,rfl⟩
 | false =>
  have hz : (l.filter fun a=>!p a) ≠ []:=fun e=>by rw [(az1 p l).mp e] at h; cases h
  have len : (l.filter fun a=>!p a).length ≤ 64:=Nat.le_trans (List.length_filter_le _ _) hl
  have gm : ∀ y ∈ (l.filter fun a=>!p a).map f,Gd n y:=fun y hy=>by
   obtain ⟨a,ha,rfl⟩:=List.mem_map.mp hy
   exact Gk.gd _ _ (g a (List.mem_filter.mp ha).1)
  cases e : (l.filter fun a=>!p a).map f with
  | nil=>exact absurd (List.map_eq_nil_iff.mp e) hz
  | cons x xs =>
   rw [e] at gm
   have len' : (x :: xs).length ≤ 64:=by rw [← e,List.length_map]; exact len
   exact ⟨X0 gm len' hn,av1 gm len' hn⟩
theorem by3 {n : Nat} {d : D} (g : Gk n d) (hn : n ≤ 60) : ∃ t,U7 [d] = some (.bool t) ∧ S8 [d] = some (.bool t) ∧ (t = true → ∃ s,d = .str s):=by
 have no : ∀ d : D,K7 "str" d = some false → ∃ t,U7 [d] = some (.bool t) ∧ S8 [d] = some (.bool t) ∧ (t = true → ∃ s,d = .str s):=fun d h=>by
  refine ⟨false,B2 (ρ:=[some (.val d)]) rfl ?_,B2 (ρ:=[some (.val d)]) rfl ?_,fun h=>by cases h⟩
  ·simp only [t8,B5,G9,D5,A6,xg0,xbs,xms,h]
  ·simp only [V7,B4,sIf,D0,B6,C3,B5,dC,D5,A6,xg0,xbs,xms,h,J6,xnf,if_true]
 cases d with
 | none=>exact no _ rfl
 | bool _=>exact no _ rfl
 | int _=>exact no _ rfl
 | tuple _=>exact no _ rfl
 | list _=>exact no _ rfl
 | dict _=>cases n <;> exact g.elim
 | str x =>
  obtain ⟨g1,g2⟩ : x.cps.all (· < 128) = true ∧ x.cps.size ≤ 100:=by cases n <;> exact g
  have hl : x.length ≤ 16777216:=by show x.cps.size ≤ _; omega
  have ln : aF3 (A6 0) [‹.str x›] = some (.int x.length):=by
   simp only [aF3,A6,xg0,xbs,hl,if_true]
  have si : aR8 (A6 0) [‹.str x›] = some (aD7 x):=by
   simp only [aR8,A6,xg0,xbs,g1,if_true]
  have i1 : D5 "str" (A6 0) [‹.str x›] = some (.bool true):=rfl
  by_cases c : (1 : Int) ≤ x.length ∧ (x.length : Int) ≤ 6
  ·have sl : (aD7 x) = x.cps.toList.map fun c=>PyData.str ⟨#[c]⟩:=rfl
   rw [sl] at si
   have l6 : x.cps.toList.length ≤ 64:=by rw [Array.length_toList]; have : x.length = x.cps.size:=rfl; omega
   let p : Nat → Bool:=fun c=>cj8 ⟨#[c]⟩ "abcdefghijklmnopqrstuvwxyz"
   have c1 : D2 1 [] (aR8 (A6 0)) (C9 0) F7 (B0 (inS false) (A6 0) (dC (.str "abcdefghijklmnopqrstuvwxyz"))) [‹.str x›] = some (x.cps.toList.map fun c=>.bool (p c)) :=
    y9 (r:=[]) rfl si (by omega) fun c _=>rfl
   have c2 : D2 1 [] (aR8 (A6 0)) (C9 0) (tB2 (inS true) (A6 0) (dC (.str "abcdefghijklmnopqrstuvwxyz"))) (A6 0) [‹.str x›] = some ((x.cps.toList.filter fun c=>!p c).map fun c=>.str ⟨#[c]⟩) :=
    W8 (r:=[]) rfl si (by omega) (fun c _=>rfl) fun c _=>rfl
   have e:=(af2 (n:=0) (f:=fun c=>PyData.str ⟨#[c]⟩) (l:=x.cps.toList) (p:=p) (fun c hc=>Q0 0 _ (by
    have:=(Array.all_eq_true' (as:=x.cps) (p:=(· < 128))).mp g1 c (by simpa using hc)
    simpa using this) (by show 1 ≤ 100; decide)) l6 (by decide)).1
   refine ⟨x.cps.toList.all p,B2 (ρ:=[‹.str x›]) rfl ?_,B2 (ρ:=[‹.str x›]) rfl ?_,fun _=>⟨x,rfl⟩⟩
   ·simp only [t8,B5,G9,i1,D9,dC,ln,f9,c.1,c.2,decide_true,U6,qN,c1,xbs,xms,xft,if_false,if_true,t5]
   ·simp only [V7,B4,sIf,C7,D0,B6,C3,Y4,B5,dC,i1,D9,ln,f9,c.1,c.2,decide_true,J6,C6,xnt,xnf,xft,if_false,if_true,B0,E4,c2,A7,xbs,xms,e]
  ·refine ⟨false,B2 (ρ:=[‹.str x›]) rfl ?_,B2 (ρ:=[‹.str x›]) rfl ?_,fun h=>by cases h⟩
   ·by_cases a : (1 : Int) ≤ x.length
    ·have b : ¬ (x.length : Int) ≤ 6:=fun b=>c ⟨a,b⟩
     simp only [t8,B5,G9,i1,D9,dC,ln,f9,a,b,decide_true,decide_false,xbs,xms]
    ·simp only [t8,B5,G9,i1,D9,dC,ln,f9,a,decide_false,xbs,xms]
   ·by_cases a : (1 : Int) ≤ x.length
    ·have b : ¬ (x.length : Int) ≤ 6:=fun b=>c ⟨a,b⟩
     simp only [V7,B4,sIf,D0,B6,C3,Y4,B5,dC,i1,D9,ln,f9,a,b,decide_true,decide_false,J6,C6,xnt,xnf,xft,if_false,if_true,xbs,xms]
    ·simp only [V7,B4,sIf,D0,B6,C3,Y4,B5,dC,i1,D9,ln,f9,a,decide_false,J6,C6,xnt,xnf,xft,if_false,if_true,xbs,xms]
theorem bf2 {n : Nat} {d : D} (g : Gk n d) : ∃ t : Bool,T0 [d] = some (.bool t) ∧ (D0 (B6 (C3 (A9 C8 (A5 (A6 0) A7)))) (B6 (Y4 (D9 leI leI (ab3 (dC (.int 9))) (A6 0) (dC (.int 9)))))) [some (.val d)] = some (!t):=by
 have no : ∀ d : D,L7 [d] = some (.bool false) → C8 [d] = some (.bool false) → ∃ t : Bool,T0 [d] = some (.bool t) ∧ (D0 (B6 (C3 (A9 C8 (A5 (A6 0) A7)))) (B6 (Y4 (D9 leI leI (ab3 (dC (.int 9))) (A6 0) (dC (.int 9)))))) [some (.val d)] = some (!t):=fun d e1 e2=>by
  refine ⟨false,B2 (ρ:=[some (.val d)]) rfl ?_,?_⟩
  ·wp_walk using evD,V8,e1
  ·wp_walk using evD,e2
 cases d with
 | int i =>
  have w1 : L7 [.int i] = some (.bool true):=rfl
  have w2 : C8 [.int i] = some (.bool true):=rfl
  have ng : ∀ ρ,ab3 (dC (.int 9)) ρ = some (.int (-9)):=fun _=>rfl
  by_cases a : -9 ≤ i
  ·by_cases b : i ≤ 9
   ·refine ⟨true,B2 (ρ:=[‹.int i›]) rfl ?_,?_⟩
    ·wp_walk using evD,V8,w1,ng,a,b,decide_true
    ·wp_walk using evD,w2,ng,a,b,decide_true
   ·refine ⟨false,B2 (ρ:=[‹.int i›]) rfl ?_,?_⟩
    ·wp_walk using evD,V8,w1,ng,a,b,decide_true,decide_false
    ·wp_walk using evD,w2,ng,a,b,decide_true,decide_false
  ·refine ⟨false,B2 (ρ:=[‹.int i›]) rfl ?_,?_⟩
   ·wp_walk using evD,V8,w1,ng,a,decide_false
   ·wp_walk using evD,w2,ng,a,decide_false
 | none=>exact no _ rfl rfl
 | bool b=>exact no _ rfl rfl
 | str x=>exact no _ rfl rfl
 | tuple xs=>exact no _ rfl rfl
 | list xs=>exact no _ rfl rfl
 | dict _=>cases n <;> exact g.elim
abbrev bz1 : D:=.tuple [.str "over", .str "multiply", .str "screen", .str "plus", .str "atop", .str "cut"]
abbrev aQ7 : D:=.list [.str "over", .str "multiply", .str "screen", .str "plus", .str "atop", .str "cut"]
abbrev cv7 : D:=.tuple [.str "turn", .str "grey", .str "round"]
abbrev co9 : D:=.list [.str "turn", .str "grey", .str "round"]
theorem aZ2 {n : Nat} {d : D} (g : Gk n d) (hn : n ≤ 60) (ys : List Str) : ∃ b s : Bool,inD true d (.tuple (ys.map PyData.str)) = some (.bool (!b)) ∧ inD false d (.tuple (ys.map PyData.str)) = some (.bool b) ∧ K7 "str" d = some s ∧ (s = false → b = false) ∧ (s = true → inD true d (.list (ys.map PyData.str)) = some (.bool (!b))) ∧ (b = true → ∃ x,d = .str x ∧ x ∈ ys):=by
 have f : (ys.map PyData.str).all R7 = true:=by
  rw [List.all_eq_true]; intro d hd; obtain ⟨y,_,rfl⟩:=List.mem_map.mp hd; rfl
 have fs : (ys.map PyData.str).all isS = true:=by
  rw [List.all_eq_true]; intro d hd; obtain ⟨y,_,rfl⟩:=List.mem_map.mp hd; rfl
 have far : ∀ d : D,R7 d = false → SeqAt.shaped d = true → K7 "str" d = some false → ∃ b s : Bool,inD true d (.tuple (ys.map PyData.str)) = some (.bool (!b)) ∧ inD false d (.tuple (ys.map PyData.str)) = some (.bool b) ∧ K7 "str" d = some s ∧ (s = false → b = false) ∧ (s = true → inD true d (.list (ys.map PyData.str)) = some (.bool (!b))) ∧ (b = true → ∃ x,d = .str x ∧ x ∈ ys):=fun d h1 h2 h3=>by
  have e : ∀ neg,inD neg d (.tuple (ys.map PyData.str)) = some (.bool neg):=fun neg=>by
   show (if R7 d = true ∧ (ys.map PyData.str).all R7 = true then _ else if R7 d = false ∧ SeqAt.shaped d = true ∧ (ys.map PyData.str).all isS = true then some (PyData.bool neg) else none) = _
   rw [if_neg (by rw [h1]; simp),if_pos ⟨h1,h2,fs⟩]
  exact ⟨false,false,e true,e false,h3,fun _=>rfl,(fun z=>by cases z),fun z=>by cases z⟩
 have flat : ∀ d : D,R7 d = true → K7 "str" d = some false → inV (toV d) ((ys.map PyData.str).map toV) = false → ∃ b s : Bool,inD true d (.tuple (ys.map PyData.str)) = some (.bool (!b)) ∧ inD false d (.tuple (ys.map PyData.str)) = some (.bool b) ∧ K7 "str" d = some s ∧ (s = false → b = false) ∧ (s = true → inD true d (.list (ys.map PyData.str)) = some (.bool (!b))) ∧ (b = true → ∃ x,d = .str x ∧ x ∈ ys):=fun d h1 h3 h4=>by
  have e : ∀ neg,inD neg d (.tuple (ys.map PyData.str)) = some (.bool neg):=fun neg=>by
   show (if R7 d = true ∧ (ys.map PyData.str).all R7 = true then some (PyData.bool (if neg then !inV (toV d) ((ys.map PyData.str).map toV) else inV (toV d) ((ys.map PyData.str).map toV))) else _) = _
   rw [if_pos ⟨h1,f⟩,h4]; cases neg <;> rfl
  exact ⟨false,false,e true,e false,h3,fun _=>rfl,(fun z=>by cases z),fun z=>by cases z⟩
 have nov : ∀ v : V,(∀ y : Str,inV v [.str y] = false) → inV v ((ys.map PyData.str).map toV) = false:=fun v h=>by
  unfold inV at h ⊢
  rw [List.map_map,List.any_map,List.any_eq_false]
  intro y _
  have e : eqV (V.str y) v = false:=by simpa using h y
  show ¬ eqV (V.str y) v = true
  rw [e]; exact Bool.false_ne_true
 cases d with
 | none=>exact flat _ rfl rfl (nov _ fun y=>rfl)
 | bool b=>exact flat _ rfl rfl (nov _ fun y=>rfl)
 | int i=>exact flat _ rfl rfl (nov _ fun y=>rfl)
 | tuple xs=>exact far _ rfl (g.ly.shaped (by omega)) rfl
 | list xs=>exact far _ rfl (g.ly.shaped (by omega)) rfl
 | dict _=>cases n <;> exact g.elim
 | str x =>
  have e1:=av2 true x ys
  have e2:=av2 false x ys
  refine ⟨ys.any fun y=>y == x,true,e1,e2,rfl,(fun z=>by cases z),fun _=>?_,fun h=>?_⟩
  ·exact e1
  ·obtain ⟨y,hy,e⟩:=List.any_eq_true.mp h
   simp only [beq_iff_eq] at e
   exact ⟨x,rfl,e ▸ hy⟩
theorem aR0 {n : Nat} {d : D} (g : Gk n d) (hn : n ≤ 60) : d = .str "layer" ∨ d = .str "group" ∨ d = .str "tone" ∨ (eqD d (.str "layer") = some (.bool false) ∧ eqD d (.str "group") = some (.bool false) ∧ eqD d (.str "tone") = some (.bool false) ∧ inD true d (.tuple [.str "layer", .str "group", .str "tone"]) = some (.bool true)):=by
 have sh:=g.ly.shaped (show n ≤ 64 by omega)
 obtain ⟨b,s,h1,h2,h3,h4,h5,h6⟩:=aZ2 g hn ["layer", "group", "tone"]
 cases b with
 | true =>
  obtain ⟨x,rfl,hx⟩:=h6 rfl
  simp only [List.mem_cons,List.not_mem_nil,or_false] at hx
  rcases hx with rfl | rfl | rfl
  ·exact .inl rfl
  ·exact .inr (.inl rfl)
  ·exact .inr (.inr (.inl rfl))
 | false =>
  refine .inr (.inr (.inr ?_))
  have ne : ∀ y : Str,SeqAt.shaped (.str y) = true → y ∈ (["layer", "group", "tone"] : List Str) → eqD d (.str y) = some (.bool false):=fun y hs hy=>by
   unfold eqD
   rw [if_pos ⟨sh,hs⟩]
   congr 2
   cases d with
   | str x =>
    have:=av2 false x ["layer", "group", "tone"]
    rw [show (.tuple ((["layer", "group", "tone"] : List Str).map PyData.str) : D) = .tuple ((["layer", "group", "tone"] : List Str).map PyData.str) from rfl] at this
    rw [h2] at this
    simp only [xft,if_false,Option.some.injEq,PyData.bool.injEq] at this
    have:=List.any_eq_false.mp this.symm y hy
    show (x == y) = false
    cases q : x == y with
    | false=>rfl
    | true=>rw [beq_iff_eq.mp q] at this; simp at this
   | _=>rfl
  exact ⟨ne _ (by decide +kernel) (by simp),ne _ (by decide +kernel) (by simp),ne _ (by decide +kernel) (by simp),h1⟩
end Lk20
namespace Lk20
open PySem G L2 Sh
def shB (d : D) : Bool:=@decide (G1 [d] = some (.bool true)) (Classical.propDecidable _)
theorem be3 {n : Nat} {d : D} (g : Gk n d) : G1 [d] = some (.bool (shB d)) ∧ E7 [d] = some (.bool (shB d)):=by
 obtain ⟨t,e1,e2,_⟩:=Y2 (Gk.gd _ _ g)
 have : shB d = t:=by
  unfold shB
  cases t with
  | true=>exact @decide_eq_true _ (Classical.propDecidable _) e1
  | false=>exact @decide_eq_false _ (Classical.propDecidable _) (by rw [e1]; intro z; cases z)
 rw [this]; exact ⟨e1,e2⟩
theorem bj5 {n : Nat} {d : D} (g : Gk n d) (h : K4 [d] = some (.bool true)) : ∃ a b sp,d = .tuple [a,b,.tuple sp]:=by
 have no : ∀ {d : D},K4 [d] = some (.bool false) → K4 [d] = some (.bool true) → False:=fun h1 h2=>by rw [h1] at h2; cases h2
 cases d with
 | tuple xs =>
  cases n with
  | zero=>exact g.elim
  | succ n =>
  match xs,g,h with
  | [a,b,c],g,h =>
   have ga:=g.2 a (by simp)
   have gb:=g.2 b (by simp)
   have gc:=g.2 c (by simp)
   obtain ⟨ta,ea,_,_⟩:=o9 (Gk.gd _ _ ga)
   obtain ⟨tb,eb,_,_⟩:=o9 (Gk.gd _ _ gb)
   have key : K7 "tuple" c = some false → False:=fun hc=>by
    refine no ?_ h
    have zz : K3 [.tuple [a,b,c]] = some (.bool false):=by
     refine B2 (ρ:=[‹.tuple [a,b,c]›]) rfl ?_
     have hi : D5 "tuple" (dIx (B1 0) (dC (.int 2))) [‹.tuple [a,b,c]›] = some (.bool false):=by
      simp only [D5,dIx,B1,dC,xg0,xbs,ab4,hc,xms]
     have hi0 : D5 "tuple" (A6 0) [‹.tuple [a,b,c]›] = some (.bool true):=rfl
     have g0 : dIx (B1 0) (dC (.int 0)) [‹.tuple [a,b,c]›] = some a:=rfl
     have g1 : dIx (B1 0) (dC (.int 1)) [‹.tuple [a,b,c]›] = some b:=rfl
     have l3 : ((([a,b,c] : List D).length : Nat) : Int) = 3:=rfl
     have b3 : ((3 : Int) == 3) = true:=rfl
     cases ta <;> cases tb <;> simp only [Q1,B4,sIf,C7,B5,D0,B6,C3,tB2,B0,E5,A9,A5,A7,G9,hi,hi0,g0,g1,B1,dC,A6,xg0,xbs,xms,l3,S2,b3,C6,J6,xnt,xnf,xft,if_true,if_false,ea,eb,Bool.true_and,Bool.false_and]
    refine B2 (ρ:=[‹.tuple [a,b,c]›,none]) rfl ?_
    wp_walk using evD,Q2,zz
   cases c with
   | tuple sp=>exact ⟨a,b,sp,rfl⟩
   | dict _=>exfalso; cases n <;> exact gc.elim
   | none=>exact (key rfl).elim
   | bool _=>exact (key rfl).elim
   | int _=>exact (key rfl).elim
   | str _=>exact (key rfl).elim
   | list _=>exact (key rfl).elim
  | [],_,h=>exact (no (V3 (by decide)).1 h).elim
  | [a],_,h=>exact (no (V3 (by simp)).1 h).elim
  | [a,b],_,h=>exact (no (V3 (by simp)).1 h).elim
  | a :: b :: c :: e :: r,_,h=>exact (no (V3 (by simp)).1 h).elim
 | none=>exact (no (K9 rfl).1 h).elim
 | bool _=>exact (no (K9 rfl).1 h).elim
 | int _=>exact (no (K9 rfl).1 h).elim
 | str _=>exact (no (K9 rfl).1 h).elim
 | list _=>exact (no (K9 rfl).1 h).elim
 | dict _=>cases n <;> exact g.elim
def aY8 : DS:=(B4 (sIf (tB2 isB (dIx (B1 0) (dC (.int 7))) (dC .none)) (B5 (dC (.bool true))) C7) (B4 (sIf (D0 (B6 (C3 (D5 "tuple" (dIx (B1 0) (dC (.int 7)))))) (tB2 neD (E5 (qE (dIx (B1 0) (dC (.int 7))))) (E5 (qE (dIx (qE (dIx (B1 0) (dC (.int 8)))) (dC (.int 2))))))) (B5 (dC (.bool false))) C7) (B5 (B0 eqD (E4 (D2 1 [] (F0 (dIx (B1 0) (dC (.int 7)))) (C9 0) (B6 (C3 (A9 E7 (A5 (A6 0) A7)))) (A6 0))) (E4 A7)))))
theorem by9 {n : Nat} {m : D} (g : Gk n m) (hn : n ≤ 60) (a b : D) (sp : List D) (xs : List D) (k : D) (h7 : atI xs 7 = some m) (h8 : atI xs 8 = some (.tuple [a,b,.tuple sp])) : ∃ t,u6 [m,.tuple [a,b,.tuple sp]] = some (.bool t) ∧ aY8 [‹.tuple xs›,some (.val k)] = some (.rt (.bool t)):=by
 have i7 : dIx (B1 0) (dC (.int 7)) [‹.tuple xs›,some (.val k)] = some m:=by simp only [dIx,B1,dC,xg0,xbs,h7]
 have i8 : dIx (qE (dIx (B1 0) (dC (.int 8)))) (dC (.int 2)) [‹.tuple xs›,some (.val k)] = some (.tuple sp):=by
  simp only [dIx,B1,qE,dC,xg0,xbs,h8,Y6,ab4]
 have j2 : dIx (B1 1) (dC (.int 2)) [some (.val m),‹.tuple [a,b,.tuple sp]›] = some (.tuple sp):=rfl
 have no : isB m .none = some (.bool false) → K7 "tuple" m = some false → ∃ t,u6 [m,.tuple [a,b,.tuple sp]] = some (.bool t) ∧ aY8 [‹.tuple xs›,some (.val k)] = some (.rt (.bool t)):=fun h1 h2=>by
  refine ⟨false,B2 (ρ:=[some (.val m),‹.tuple [a,b,.tuple sp]›]) rfl ?_,?_⟩
  ·simp only [ah3,B4,sIf,C7,B5,tB2,D0,B6,C3,B0,D5,A6,dC,xg0,xbs,xms,h1,h2,C6,J6,xnf,xft,if_false,if_true]
  ·simp only [aY8,B4,sIf,C7,B5,tB2,D0,B6,C3,B0,D5,dC,i7,xbs,xms,h1,h2,C6,J6,xnf,xft,if_false,if_true]
 cases m with
 | none =>
  refine ⟨true,rfl,?_⟩
  have h1 : isB .none .none = some (.bool true):=rfl
  simp only [aY8,B4,sIf,B5,tB2,B0,dC,i7,xbs,xms,h1,C6,if_true]
 | bool _=>exact no rfl rfl
 | int _=>exact no rfl rfl
 | str _=>exact no rfl rfl
 | list _=>exact no rfl rfl
 | dict _=>cases n <;> exact g.elim
 | tuple ys =>
  cases n with
  | zero=>exact g.elim
  | succ n =>
  have h1 : isB (.tuple ys) .none = some (.bool false):=rfl
  have h2 : K7 "tuple" (.tuple ys) = some true:=rfl
  have ld : E5 (qE (dIx (B1 0) (dC (.int 7)))) [‹.tuple xs›,some (.val k)] = some (.int ys.length):=by simp only [E5,qE,i7,xbs,xms,Y6]
  have l8 : E5 (qE (dIx (qE (dIx (B1 0) (dC (.int 8)))) (dC (.int 2)))) [‹.tuple xs›,some (.val k)] = some (.int sp.length):=by simp only [E5,qE,xbs,xms] at i8 ⊢; rw [i8]; rfl
  have l2 : E5 (qE (dIx (B1 1) (dC (.int 2)))) [‹.tuple ys›,‹.tuple [a,b,.tuple sp]›] = some (.int sp.length):=by simp only [E5,qE,j2,xbs,xms,Y6]
  have l0 : E5 (B1 0) [‹.tuple ys›,‹.tuple [a,b,.tuple sp]›] = some (.int ys.length):=rfl
  cases c : (((ys.length : Nat) : Int) == ((sp.length : Nat) : Int)) with
  | false =>
   refine ⟨false,B2 (ρ:=[‹.tuple ys›,‹.tuple [a,b,.tuple sp]›]) rfl ?_,?_⟩
   ·simp only [ah3,B4,sIf,C7,B5,tB2,D0,B6,C3,B0,D5,A6,dC,xg0,xbs,xms,h1,h2,l0,l2,S2,c,C6,J6,xnt,xnf,xft,if_false,if_true]
   ·simp only [aY8,B4,sIf,C7,B5,tB2,D0,B6,C3,B0,D5,dC,i7,xbs,xms,h1,h2,ld,l8,S2,c,C6,J6,xnt,xnf,xft,if_false,if_true]
  | true =>
   have gy : ∀ y ∈ ys,Gk n y:=g.2
   have c1 : D2 1 [] (F0 (A6 0)) (C9 0) F7 (A9 G1 (A5 (A6 0) A7)) [‹.tuple ys›,‹.tuple [a,b,.tuple sp]›] = some (ys.map fun y=>.bool (shB y)):=by
    refine y9 (l:=ys) (h:=id) (r:=[]) rfl (by rw [List.map_id]; rfl) (by have:=g.1; omega) fun y hy=>?_
    wp_walk using evD,id,(be3 (gy y hy)).1
   have c2 : D2 1 [] (F0 (dIx (B1 0) (dC (.int 7)))) (C9 0) (B6 (C3 (A9 E7 (A5 (A6 0) A7)))) (A6 0) [‹.tuple xs›,some (.val k)] = some ((ys.filter fun y=>!shB y).map id):=by
    refine W8 (l:=ys) (h:=id) (f:=id) (p:=fun y=>!shB y) (r:=[]) rfl (by rw [List.map_id]; simp only [F0,i7,xbs]) (by have:=g.1; omega) (fun y hy=>?_) fun y _=>rfl
    wp_walk using evD,id,(be3 (gy y hy)).2
   have e:=(af2 (n:=n) (f:=id) (l:=ys) (p:=shB) gy g.1 (by omega)).1
   refine ⟨ys.all shB,B2 (ρ:=[‹.tuple ys›,‹.tuple [a,b,.tuple sp]›]) rfl ?_,?_⟩
   ·simp only [ah3,B4,sIf,C7,B5,tB2,D0,B6,C3,B0,D5,A6,dC,xg0,xbs,xms,h1,h2,l0,l2,S2,c,C6,J6,xnt,xnf,xft,if_false,if_true,U6,qN,c1,t5]
   ·simp only [aY8,B4,sIf,C7,B5,tB2,D0,B6,C3,B0,D5,dC,i7,xbs,xms,h1,h2,ld,l8,S2,c,C6,J6,xnt,xnf,xft,if_false,if_true,E4,c2,A7,e]
end Lk20
namespace Lk20
open PySem G L2 Sh
def bz6 : DS:=(B4 (sIf (D0 (tB2 neD (E5 (B1 0)) (dC (.int 9))) (B6 (C3 (A9 J0 (A5 (dIx (B1 0) (dC (.int 8))) A7))))) (B5 (dC (.bool false))) C7) (B4 (sIf (tB2 neD (E4 (D2 1 [] (F0 (al6 (A6 0) (E3 (dC (.int 5))) (E3 (dC (.int 7))))) (C9 0) (D0 (B6 (C3 (A9 C8 (A5 (A6 0) A7)))) (B6 (Y4 (D9 leI leI (ab3 (dC (.int 9))) (A6 0) (dC (.int 9)))))) (A6 0))) (E4 A7)) (B5 (dC (.bool false))) C7) aY8))
theorem ce6 {n : Nat} (hn : n ≤ 59) {a0 a1 a2 a3 a4 a5 a6 a7 a8 : D} {b : Bool} (hb : inD true a2 bz1 = some (.bool (!b))) (g5 : Gk n a5) (g6 : Gk n a6) (g7 : Gk n a7) (g8 : Gk n a8) (k : D) :
  ∃ t,K6 [.tuple [a0,a1,a2,a3,a4,a5,a6,a7,a8]] = some (.bool (b && t)) ∧ bz6 [‹.tuple [a0,a1,a2,a3,a4,a5,a6,a7,a8]›,some (.val k)] = some (.rt (.bool t)):=by
 have l9 : ((([a0,a1,a2,a3,a4,a5,a6,a7,a8] : List D).length : Nat) : Int) = 9:=rfl
 have b9 : ((9 : Int) == 9) = true:=rfl
 have x2 : O0 [.tuple [a0,a1,a2,a3,a4,a5,a6,a7,a8]] = some a2:=rfl
 have x5 : ah7 [.tuple [a0,a1,a2,a3,a4,a5,a6,a7,a8]] = some a5:=rfl
 have x6 : ap4 [.tuple [a0,a1,a2,a3,a4,a5,a6,a7,a8]] = some a6:=rfl
 have x7 : ah6 [.tuple [a0,a1,a2,a3,a4,a5,a6,a7,a8]] = some a7:=rfl
 have x8 : Z7 [.tuple [a0,a1,a2,a3,a4,a5,a6,a7,a8]] = some a8:=rfl
 have i8 : dIx (B1 0) (dC (.int 8)) [‹.tuple [a0,a1,a2,a3,a4,a5,a6,a7,a8]›,some (.val k)] = some a8:=rfl
 obtain ⟨ts,s1,s2⟩:=bj6 (Gk.gd _ _ g8) (by omega)
 cases ts with
 | false =>
  refine ⟨false,B2 (ρ:=[‹.tuple [a0,a1,a2,a3,a4,a5,a6,a7,a8]›]) rfl ?_,?_⟩
  ·rw [Bool.and_false]
   cases b with
   | false =>
    rw [xnf] at hb
    wp_walk using evD,J2,l9,b9,x2,hb
   | true =>
    rw [xnt] at hb
    wp_walk using evD,J2,l9,b9,x2,hb,x8,s1
  ·simp only [bz6,B4,sIf,C7,B5,D0,B6,C3,tB2,B0,E5,B1,dC,A9,A5,A7,i8,xg0,xbs,xms,l9,b9,S2,s2,C6,J6,xnt,xnf,xft,if_true,if_false]
 | true =>
  obtain ⟨p,q,sp,rfl⟩:=bj5 g8 s1
  obtain ⟨o5,e5,f5⟩:=bf2 g5
  obtain ⟨o6,e6,f6⟩:=bf2 g6
  obtain ⟨tm,m1,m2⟩:=by9 g7 (by omega) p q sp [a0,a1,a2,a3,a4,a5,a6,a7,.tuple [p,q,.tuple sp]] k rfl rfl
  have c : D2 1 [] (F0 (al6 (A6 0) (E3 (dC (.int 5))) (E3 (dC (.int 7))))) (C9 0) (D0 (B6 (C3 (A9 C8 (A5 (A6 0) A7)))) (B6 (Y4 (D9 leI leI (ab3 (dC (.int 9))) (A6 0) (dC (.int 9)))))) (A6 0) [‹.tuple [a0,a1,a2,a3,a4,a5,a6,a7,.tuple [p,q,.tuple sp]]›,some (.val k)] = some (([(a5,o5),(a6,o6)].filter fun z=>!z.2).map Prod.fst):=by
   refine W8 (l:=[(a5,o5),(a6,o6)]) (h:=Prod.fst) (f:=Prod.fst) (p:=fun z=>!z.2) (r:=[]) rfl rfl (by show 2 ≤ 1000; decide) ?_ fun z _=>rfl
   intro z hz
   simp only [List.mem_cons,List.not_mem_nil,or_false] at hz
   rcases hz with rfl | rfl
   ·exact f5
   ·exact f6
  have en:=(af2 (n:=n) (f:=Prod.fst) (l:=[(a5,o5),(a6,o6)]) (p:=Prod.snd) (fun z hz=>by
   simp only [List.mem_cons,List.not_mem_nil,or_false] at hz
   rcases hz with rfl | rfl
   ·exact g5
   ·exact g6) (by show 2 ≤ 64; decide) (by omega)).2
  have al : ([(a5,o5),(a6,o6)] : List (D × Bool)).all Prod.snd = (o5 && o6):=by simp
  rw [al] at en
  refine ⟨o5 && (o6 && tm),B2 (ρ:=[‹.tuple [a0,a1,a2,a3,a4,a5,a6,a7,.tuple [p,q,.tuple sp]]›]) rfl ?_,?_⟩
  ·cases b with
   | false =>
    rw [xnf] at hb
    wp_walk using evD,J2,l9,b9,x2,hb,Bool.false_and
   | true =>
    rw [xnt] at hb
    cases o5 <;> cases o6 <;> wp_walk using evD,J2,l9,b9,x2,hb,x5,x6,x7,x8,s1,e5,e6,m1,Bool.true_and,Bool.false_and
  ·have h1 : (sIf (D0 (tB2 neD (E5 (B1 0)) (dC (.int 9))) (B6 (C3 (A9 J0 (A5 (dIx (B1 0) (dC (.int 8))) A7))))) (B5 (dC (.bool false))) C7) [‹.tuple [a0,a1,a2,a3,a4,a5,a6,a7,.tuple [p,q,.tuple sp]]›,some (.val k)] = some (.nx [‹.tuple [a0,a1,a2,a3,a4,a5,a6,a7,.tuple [p,q,.tuple sp]]›,some (.val k)]):=by
    simp only [sIf,C7,B5,D0,B6,C3,tB2,B0,E5,B1,dC,A9,A5,A7,i8,xg0,xbs,xms,l9,b9,S2,s2,C6,J6,xnt,xnf,xft,if_true,if_false]
   unfold bz6
   rw [B7 h1]
   have nn : E4 A7 [‹.tuple [a0,a1,a2,a3,a4,a5,a6,a7,.tuple [p,q,.tuple sp]]›,some (.val k)] = some (.list []):=rfl
   cases o : (o5 && o6) with
   | false =>
    rw [o] at en
    have : (o5 && (o6 && tm)) = false:=by rw [← Bool.and_assoc,o]; rfl
    rw [this]
    simp only [B4,sIf,B5,tB2,B0,E4,c,nn,dC,A7,xbs,xms,en,C6,xnf,if_true]
   | true =>
    rw [o] at en
    have : (o5 && (o6 && tm)) = tm:=by rw [← Bool.and_assoc,o]; rfl
    rw [this]
    have h2 : (sIf (tB2 neD (E4 (D2 1 [] (F0 (al6 (A6 0) (E3 (dC (.int 5))) (E3 (dC (.int 7))))) (C9 0) (D0 (B6 (C3 (A9 C8 (A5 (A6 0) A7)))) (B6 (Y4 (D9 leI leI (ab3 (dC (.int 9))) (A6 0) (dC (.int 9)))))) (A6 0))) (E4 A7)) (B5 (dC (.bool false))) C7) [‹.tuple [a0,a1,a2,a3,a4,a5,a6,a7,.tuple [p,q,.tuple sp]]›,some (.val k)] = some (.nx [‹.tuple [a0,a1,a2,a3,a4,a5,a6,a7,.tuple [p,q,.tuple sp]]›,some (.val k)]):=by
     simp only [sIf,B5,C7,tB2,B0,E4,c,dC,A7,xbs,xms,en,C6,xnt,xft,if_false]
    rw [B7 h2]
    exact m2
def aB9 (self : List D → Option D) : DS:=(B4 (sIf (D0 (tB2 neD (E5 (B1 0)) (dC (.int 6))) (D0 (tB2 eqD (A6 1) (dC (.int 0))) (B6 (C3 (D5 "tuple" (dIx (B1 0) (dC (.int 5)))))))) (B5 (dC (.bool false))) C7) (B5 (B0 eqD (E4 (D2 1 [1] (F0 (dIx (B1 0) (dC (.int 5)))) (C9 0) (B6 (C3 (A9 self (A5 (A6 0) (A5 (B0 aj5 (A6 1) (dC (.int 1))) A7))))) (A6 0))) (E4 A7))))
theorem ck1 {n : Nat} {a0 a1 a2 a3 a4 a5 : D} {b : Bool} (hb : inD true a2 bz1 = some (.bool (!b))) (f : Nat) (self : List D → Option D) :
  C4 (f + 1) [.tuple [a0,a1,a2,a3,a4,a5],.int 0] = some (.bool false) ∧ aB9 self [‹.tuple [a0,a1,a2,a3,a4,a5]›,‹.int 0›] = some (.rt (.bool false)):=by
 have l6 : ((([a0,a1,a2,a3,a4,a5] : List D).length : Nat) : Int) = 6:=rfl
 have b6 : ((6 : Int) == 6) = true:=rfl
 have z0 : ((0 : Int) == 0) = true:=rfl
 have x2 : O0 [.tuple [a0,a1,a2,a3,a4,a5]] = some a2:=rfl
 refine ⟨B2 (g:=E1 (A8 f)) (ρ:=[‹.tuple [a0,a1,a2,a3,a4,a5]›,‹.int 0›]) rfl ?_,?_⟩
 ·cases b with
  | false=>rw [xnf] at hb; wp_walk using evD,E1,l6,b6,x2,hb
  | true=>rw [xnt] at hb; wp_walk using evD,E1,l6,b6,x2,hb,z0
 ·wp_walk using evD,aB9,l6,b6,z0
theorem bC5 {n : Nat} (hn : n ≤ 59) {a0 a1 a2 a3 a4 a5 : D} {b : Bool} (hb : inD true a2 bz1 = some (.bool (!b))) (g5 : Gk (n + 1) a5) (k f j : Nat) (nb : D → Bool) (H : ∀ x,Gk n x → C1 f [x,.int k] = some (.bool (nb x)) ∧ B9 j [x,.int k] = some (.bool (nb x))) :
  ∃ t,C4 (f + 2) [.tuple [a0,a1,a2,a3,a4,a5],.int ((k + 1 : Nat) : Int)] = some (.bool (b && t)) ∧ aB9 (B9 j) [‹.tuple [a0,a1,a2,a3,a4,a5]›,‹.int ((k + 1 : Nat) : Int)›] = some (.rt (.bool t)) ∧ (t = true → ∃ ks,a5 = .tuple ks ∧ ks.all nb = true):=by
 have l6 : ((([a0,a1,a2,a3,a4,a5] : List D).length : Nat) : Int) = 6:=rfl
 have b6 : ((6 : Int) == 6) = true:=rfl
 have z0 : (((k + 1 : Nat) : Int) == 0) = false:=beq_eq_false_iff_ne.mpr (by omega)
 have k1 : ((k + 1 : Nat) : Int) - 1 = (k : Int):=by omega
 have x2 : O0 [.tuple [a0,a1,a2,a3,a4,a5]] = some a2:=rfl
 have x5 : J5 [.tuple [a0,a1,a2,a3,a4,a5]] = some a5:=rfl
 have i5 : dIx (B1 0) (dC (.int 5)) [‹.tuple [a0,a1,a2,a3,a4,a5]›,‹.int ((k + 1 : Nat) : Int)›] = some a5:=rfl
 have prog : ∀ t,M4 (f + 1) [a5,.int k] = some (.bool t) → C4 (f + 2) [.tuple [a0,a1,a2,a3,a4,a5],.int ((k + 1 : Nat) : Int)] = some (.bool (b && t)):=fun t h=>by
  refine B2 (g:=E1 (A8 (f + 1))) (ρ:=[‹.tuple [a0,a1,a2,a3,a4,a5]›,‹.int ((k + 1 : Nat) : Int)›]) rfl ?_
  have h' : A8 (f + 1) 2 [a5,.int k] = some (.bool t):=h
  cases b with
  | false=>rw [xnf] at hb; wp_walk using evD,E1,l6,b6,x2,hb,Bool.false_and
  | true=>rw [xnt] at hb; wp_walk using evD,E1,l6,b6,x2,hb,z0,x5,k1,h',Bool.true_and
 have no : K7 "tuple" a5 = some false → ∃ t,C4 (f + 2) [.tuple [a0,a1,a2,a3,a4,a5],.int ((k + 1 : Nat) : Int)] = some (.bool (b && t)) ∧ aB9 (B9 j) [‹.tuple [a0,a1,a2,a3,a4,a5]›,‹.int ((k + 1 : Nat) : Int)›] = some (.rt (.bool t)) ∧ (t = true → ∃ ks,a5 = .tuple ks ∧ ks.all nb = true):=fun h=>by
  refine ⟨false,prog false ?_,?_,fun z=>by cases z⟩
  ·refine B2 (g:=Q3 (A8 f)) (ρ:=[some (.val a5),‹.int k›]) rfl ?_
   simp only [Q3,B5,G9,D5,A6,xg0,xbs,xms,h]
  ·simp only [aB9,B4,sIf,B5,D0,B6,C3,tB2,B0,E5,B1,dC,D5,A6,i5,h,xg0,xg1,xbs,xms,l6,b6,S2,g9,z0,C6,J6,xnt,xnf,xft,if_true,if_false]
 cases a5 with
 | none=>exact no rfl
 | bool _=>exact no rfl
 | int _=>exact no rfl
 | str _=>exact no rfl
 | list _=>exact no rfl
 | dict _=>exact g5.elim
 | tuple ks =>
  have gk : ∀ y ∈ ks,Gk n y:=g5.2
  have c1 : D2 1 [1] (F0 (A6 0)) (C9 0) F7 (A9 (A8 f 1) (A5 (A6 0) (A5 (A6 1) A7))) [‹.tuple ks›,‹.int k›] = some (ks.map fun y=>.bool (nb y)):=by
   refine y9 (l:=ks) (h:=id) (r:=[‹.int k›]) rfl (by rw [List.map_id]; rfl) (by have:=g5.1; omega) fun y hy=>?_
   have h' : A8 f 1 [y,.int k] = some (.bool (nb y)):=(H y (gk y hy)).1
   wp_walk using evD,id,h'
  have c2 : D2 1 [1] (F0 (dIx (B1 0) (dC (.int 5)))) (C9 0) (B6 (C3 (A9 (B9 j) (A5 (A6 0) (A5 (B0 aj5 (A6 1) (dC (.int 1))) A7))))) (A6 0) [‹.tuple [a0,a1,a2,a3,a4,.tuple ks]›,‹.int ((k + 1 : Nat) : Int)›] = some ((ks.filter fun y=>!nb y).map id):=by
   refine W8 (l:=ks) (h:=id) (f:=id) (p:=fun y=>!nb y) (r:=[‹.int ((k + 1 : Nat) : Int)›]) rfl (by rw [List.map_id]; rfl) (by have:=g5.1; omega) (fun y hy=>?_) fun y _=>rfl
   wp_walk using evD,id,k1,(H y (gk y hy)).2
  have e:=(af2 (n:=n) (f:=id) (l:=ks) (p:=nb) gk g5.1 (by omega)).1
  refine ⟨ks.all nb,prog _ ?_,?_,fun h=>⟨ks,rfl,h⟩⟩
  ·refine B2 (g:=Q3 (A8 f)) (ρ:=[‹.tuple ks›,‹.int k›]) rfl ?_
   have hi : D5 "tuple" (A6 0) [‹.tuple ks›,‹.int k›] = some (.bool true):=rfl
   simp only [Q3,B5,G9,hi,U6,qN,c1,xbs,xms,xft,if_false,t5]
  ·have hi : D5 "tuple" (dIx (B1 0) (dC (.int 5))) [‹.tuple [a0,a1,a2,a3,a4,.tuple ks]›,‹.int ((k + 1 : Nat) : Int)›] = some (.bool true):=rfl
   simp only [aB9,B4,sIf,C7,B5,D0,B6,C3,tB2,B0,E5,B1,dC,A6,hi,xg0,xg1,xbs,xms,l6,b6,S2,g9,z0,C6,J6,xnt,xnf,xft,if_true,if_false,E4,c2,A7,e]
end Lk20
namespace Lk20
open PySem G L2 Sh
theorem bC2 {n : Nat} (hn : n ≤ 60) {xs : List D} {a0 a1 a2 a3 a4 : D} (A0 : atI xs 0 = some a0) (A1 : atI xs 1 = some a1) (A2 : atI xs 2 = some a2) (A3 : atI xs 3 = some a3) (A4 : atI xs 4 = some a4) (g1 : Gk n a1) (g2 : Gk n a2) (g3 : Gk n a3) (g4 : Gk n a4) :
  ∃ t1 t3 t4 bm br : Bool,U7 [a1] = some (.bool t1) ∧ G1 [a3] = some (.bool t3) ∧ K7 "bool" a4 = some t4 ∧ inD true a2 bz1 = some (.bool (!bm)) ∧ inD false a2 cv7 = some (.bool br) ∧
   (eqD a0 (.str "tone") = some (.bool false) → J1 [.tuple xs] = some (.bool (t1 && (bm && (t3 && t4))))) ∧ (eqD a0 (.str "tone") = some (.bool true) → J1 [.tuple xs] = some (.bool (t1 && (br && (t3 && t4))))) ∧ (t1 = true → ∃ s,a1 = .str s):=by
 obtain ⟨t1,n1,n2,n3⟩:=by3 g1 hn
 obtain ⟨t3,e3,f3,_⟩:=Y2 (Gk.gd _ _ g3)
 obtain ⟨_,_,t4,e4⟩:=bg4 g4
 obtain ⟨bm,s,m1,m2,m3,m4,m5,_⟩:=aZ2 g2 hn ["over", "multiply", "screen", "plus", "atop", "cut"]
 obtain ⟨br,s',r1,r2,r3,r4,r5,_⟩:=aZ2 g2 hn ["turn", "grey", "round"]
 have ss : s' = s:=by rw [m3] at r3; cases r3; rfl
 subst ss
 have step : ∀ (L : D) (b : Bool) (ρ1 : Rho),ρ1 = [‹.tuple xs›,some (.val L)] → (s' = false → b = false) → (s' = true → inD true a2 L = some (.bool (!b))) →
   (B4 (sIf (D0 (B6 (C3 (A9 S8 (A5 (dIx (B1 0) (dC (.int 1))) A7)))) (D0 (B6 (C3 (D5 "str" (dIx (B1 0) (dC (.int 2)))))) (tB2 (inD true) (dIx (B1 0) (dC (.int 2))) (A6 1)))) (B5 (dC (.bool false))) C7) (B5 (G9 (A9 E7 (A5 (dIx (B1 0) (dC (.int 3))) A7)) (D5 "bool" (dIx (B1 0) (dC (.int 4))))))) ρ1 = some (.rt (.bool (t1 && (b && (t3 && t4))))):=fun L b ρ1 hρ h1 h2=>by
  subst hρ
  have i1 : dIx (B1 0) (dC (.int 1)) [‹.tuple xs›,some (.val L)] = some a1:=by simp only [dIx,B1,dC,xg0,xbs,A1]
  have i2 : dIx (B1 0) (dC (.int 2)) [‹.tuple xs›,some (.val L)] = some a2:=by simp only [dIx,B1,dC,xg0,xbs,A2]
  have i3 : dIx (B1 0) (dC (.int 3)) [‹.tuple xs›,some (.val L)] = some a3:=by simp only [dIx,B1,dC,xg0,xbs,A3]
  have i4 : dIx (B1 0) (dC (.int 4)) [‹.tuple xs›,some (.val L)] = some a4:=by simp only [dIx,B1,dC,xg0,xbs,A4]
  cases t1 with
  | false=>simp only [B4,sIf,B5,D0,B6,C3,A9,A5,A7,i1,n2,dC,J6,xbs,xms,xnf,if_true,Bool.false_and]
  | true =>
   cases s' with
   | false =>
    rw [h1 rfl]
    simp only [B4,sIf,B5,D0,B6,C3,A9,A5,A7,i1,i2,n2,D5,m3,dC,J6,xbs,xms,xnt,xnf,xft,if_true,if_false,Bool.false_and,Bool.and_false,Bool.true_and]
   | true =>
    have h2:=h2 rfl
    cases b with
    | false =>
     rw [xnf] at h2
     simp only [B4,sIf,B5,D0,B6,C3,tB2,B0,A9,A5,A7,i1,i2,n2,D5,m3,h2,dC,A6,xg0,xg1,J6,C6,xbs,xms,xnt,xnf,xft,if_true,if_false,Bool.false_and,Bool.and_false,Bool.true_and]
    | true =>
     rw [xnt] at h2
     cases t3 <;> simp only [B4,sIf,C7,B5,D0,B6,C3,tB2,B0,G9,A9,A5,A7,i1,i2,i3,i4,n2,f3,D5,m3,h2,e4,dC,A6,xg0,xg1,J6,C6,xbs,xms,xnt,xnf,xft,if_true,if_false,Bool.false_and,Bool.true_and]
 refine ⟨t1,t3,t4,bm,br,n1,e3,e4,m1,r2,fun h=>?_,fun h=>?_,n3⟩
 ·refine B2 (ρ:=[‹.tuple xs›,none]) rfl ?_
  have i0 : dIx (B1 0) (dC (.int 0)) [‹.tuple xs›,some (.val aQ7)] = some a0:=by simp only [dIx,B1,dC,xg0,xbs,A0]
  have h0 : (D3 1 (E4 (A5 (dC (.str "over")) (A5 (dC (.str "multiply")) (A5 (dC (.str "screen")) (A5 (dC (.str "plus")) (A5 (dC (.str "atop")) (A5 (dC (.str "cut")) A7)))))))) [‹.tuple xs›,none] = some (.nx [‹.tuple xs›,some (.val aQ7)]):=rfl
  have h1 : (sIf (tB2 eqD (dIx (B1 0) (dC (.int 0))) (dC (.str "tone"))) (D3 1 (E4 (A5 (dC (.str "turn")) (A5 (dC (.str "grey")) (A5 (dC (.str "round")) A7))))) C7) [‹.tuple xs›,some (.val aQ7)] = some (.nx [‹.tuple xs›,some (.val aQ7)]):=by
   simp only [sIf,C7,tB2,B0,i0,dC,h,C6,xbs,xft,if_false]
  unfold ab6
  rw [B7 h0,B7 h1]
  exact step aQ7 bm _ rfl m4 m5
 ·refine B2 (ρ:=[‹.tuple xs›,none]) rfl ?_
  have i0 : dIx (B1 0) (dC (.int 0)) [‹.tuple xs›,some (.val aQ7)] = some a0:=by simp only [dIx,B1,dC,xg0,xbs,A0]
  have h0 : (D3 1 (E4 (A5 (dC (.str "over")) (A5 (dC (.str "multiply")) (A5 (dC (.str "screen")) (A5 (dC (.str "plus")) (A5 (dC (.str "atop")) (A5 (dC (.str "cut")) A7)))))))) [‹.tuple xs›,none] = some (.nx [‹.tuple xs›,some (.val aQ7)]):=rfl
  have h1 : (sIf (tB2 eqD (dIx (B1 0) (dC (.int 0))) (dC (.str "tone"))) (D3 1 (E4 (A5 (dC (.str "turn")) (A5 (dC (.str "grey")) (A5 (dC (.str "round")) A7))))) C7) [‹.tuple xs›,some (.val aQ7)] = some (.nx [‹.tuple xs›,some (.val co9)]):=by
   simp only [sIf,D3,tB2,B0,i0,dC,h,C6,E4,A5,A7,xbs,xms,if_true,xw0,xw1]
  unfold ab6
  rw [B7 h0,B7 h1]
  exact step co9 br _ rfl r4 r5
def aV0 (d : D) (ns : List D) : Prop:=∃ a0 a1 r,d = .tuple (a0 :: a1 :: r) ∧ (∃ s,a1 = .str s) ∧ eqD a0 (.str "group") = some (.bool false) ∧ ns = [a1]
def NdL (P : D → List D → Prop) : List D → List D → Prop
 | [],ns=>ns = []
 | x :: xs,ns=>∃ n1 n2,P x n1 ∧ NdL P xs n2 ∧ ns = n1 ++ n2
def Nds : Nat → D → List D → Prop
 | 0,d,ns=>aV0 d ns
 | k + 1,d,ns=>aV0 d ns ∨ ∃ nm a2 a3 a4 ks nss,d = .tuple [.str "group", nm,a2,a3,a4,.tuple ks] ∧ (∃ s,nm = .str s) ∧ NdL (Nds k) ks nss ∧ ns = nm :: nss
theorem aY7 {P : D → List D → Prop} : ∀ {ks : List D},(∀ x ∈ ks,∃ ns,P x ns ∧ ns.length ≤ wt x) → ∃ ns,NdL P ks ns ∧ ns.length ≤ wts ks
 | [],_=>⟨[],rfl,Nat.zero_le _⟩
 | x :: ks,h=>by
  obtain ⟨n1,p1,l1⟩:=h x (List.mem_cons_self ..)
  obtain ⟨n2,p2,l2⟩:=aY7 fun y hy=>h y (List.mem_cons_of_mem _ hy)
  exact ⟨n1 ++ n2,⟨n1,n2,p1,p2,rfl⟩,by rw [List.length_append,wts]; omega⟩
theorem x4 {j : Nat} {d k : D} {t : Bool} (h : K2 (B9 j) [some (.val d),some (.val k)] = some (.rt (.bool t))) : B9 (j + 1) [d,k] = some (.bool t):=B2 (g:=K2 (B9 j)) (ρ:=[some (.val d),some (.val k)]) rfl h
theorem x9 {f : Nat} {d k : D} {t : Bool} (h : F5 (A8 f) [some (.val d),some (.val k)] = some (.rt (.bool t))) : C1 (f + 1) [d,k] = some (.bool t):=B2 (g:=F5 (A8 f)) (ρ:=[some (.val d),some (.val k)]) rfl h
theorem y8 {d : D} (h : K7 "tuple" d = some false) (f j : Nat) (k : D) : C1 (f + 1) [d,k] = some (.bool false) ∧ B9 (j + 1) [d,k] = some (.bool false):=by
 refine ⟨x9 ?_,x4 ?_⟩
 ·simp only [F5,B4,sIf,B5,D0,B6,C3,D5,A6,dC,xg0,xbs,xms,h,J6,xnf,if_true]
 ·simp only [K2,B4,sIf,B5,D0,B6,C3,D5,A6,dC,xg0,xbs,xms,h,J6,xnf,if_true]
theorem an5 {xs : List D} (h : xs.length < 5) (f j : Nat) (k : D) : C1 (f + 1) [.tuple xs,k] = some (.bool false) ∧ B9 (j + 1) [.tuple xs,k] = some (.bool false):=by
 have h5 : ((xs.length : Nat) : Int) < 5:=by omega
 refine ⟨x9 ?_,x4 ?_⟩
 ·wp_walk using evD,F5,h5,decide_true
 ·wp_walk using evD,K2,h5,decide_true
theorem bH3 {f g : DS} {ρ : Rho} {d : D} (h : f ρ = some (.rt d)) : B4 f g ρ = some (.rt d):=by unfold B4; rw [h]; rfl
theorem kin (x : Str) (h : (["layer", "group", "tone"] : List Str).any (fun y=>y == x) = true) : inD true (.str x) (.tuple [.str "layer", .str "group", .str "tone"]) = some (.bool false):=by
 have:=av2 true x ["layer", "group", "tone"]
 rw [h] at this
 exact this
theorem cw4 : eqD (.str "layer") (.str "layer") = some (.bool true):=O3 (by decide +kernel) (by decide +kernel) (by decide +kernel)
theorem cp6 : eqD (.str "layer") (.str "group") = some (.bool false):=O3 (by decide +kernel) (by decide +kernel) (by decide +kernel)
theorem ca3 : eqD (.str "layer") (.str "tone") = some (.bool false):=O3 (by decide +kernel) (by decide +kernel) (by decide +kernel)
theorem cw5 : eqD (.str "group") (.str "layer") = some (.bool false):=O3 (by decide +kernel) (by decide +kernel) (by decide +kernel)
theorem bH7 : eqD (.str "group") (.str "group") = some (.bool true):=O3 (by decide +kernel) (by decide +kernel) (by decide +kernel)
theorem ca4 : eqD (.str "group") (.str "tone") = some (.bool false):=O3 (by decide +kernel) (by decide +kernel) (by decide +kernel)
theorem cw3 : eqD (.str "tone") (.str "layer") = some (.bool false):=O3 (by decide +kernel) (by decide +kernel) (by decide +kernel)
theorem cp5 : eqD (.str "tone") (.str "group") = some (.bool false):=O3 (by decide +kernel) (by decide +kernel) (by decide +kernel)
theorem bH6 : eqD (.str "tone") (.str "tone") = some (.bool true):=O3 (by decide +kernel) (by decide +kernel) (by decide +kernel)
theorem aE0 {n : Nat} (hn : n ≤ 59) {xs : List D} (h5 : 5 ≤ xs.length) (g : ∀ x ∈ xs,Gk n x) (k : Int) (f j : Nat) (PG : D → Prop)
  (HG : ∀ a0 a1 a2 a3 a4 a5 b,xs = [a0,a1,a2,a3,a4,a5] → inD true a2 bz1 = some (.bool (!b)) → ∃ t,C4 f [.tuple xs,.int k] = some (.bool (b && t)) ∧ aB9 (B9 j) [‹.tuple xs›,‹.int k›] = some (.rt (.bool t)) ∧ (t = true → PG a5))
  (HG' : xs.length ≠ 6 → C4 f [.tuple xs,.int k] = some (.bool false)) :
  ∃ t,C1 (f + 1) [.tuple xs,.int k] = some (.bool t) ∧ B9 (j + 1) [.tuple xs,.int k] = some (.bool t) ∧ (t = true → (∃ ns,aV0 (.tuple xs) ns ∧ ns.length = 1) ∨ ∃ nm a2 a3 a4 a5,xs = [.str "group", nm,a2,a3,a4,a5] ∧ (∃ s,nm = .str s) ∧ PG a5):=by
 obtain ⟨a0,a1,a2,a3,a4,r,hx⟩ : ∃ a0 a1 a2 a3 a4 r,xs = a0 :: a1 :: a2 :: a3 :: a4 :: r:=by
  match xs,h5 with
  | a0 :: a1 :: a2 :: a3 :: a4 :: r,_=>exact ⟨a0,a1,a2,a3,a4,r,rfl⟩
  | [],h=>simp at h
  | [_],h=>simp at h
  | [_,_],h=>simp at h
  | [_,_,_],h=>simp at h
  | [_,_,_,_],h=>simp at h
 have A0 : atI xs 0 = some a0:=by rw [hx]; exact O6 (j:=0) rfl
 have A1 : atI xs 1 = some a1:=by rw [hx]; exact O6 (j:=1) rfl
 have A2 : atI xs 2 = some a2:=by rw [hx]; exact O6 (j:=2) rfl
 have A3 : atI xs 3 = some a3:=by rw [hx]; exact O6 (j:=3) rfl
 have A4 : atI xs 4 = some a4:=by rw [hx]; exact O6 (j:=4) rfl
 have g0:=g a0 (by rw [hx]; simp)
 have g1:=g a1 (by rw [hx]; simp)
 have g2:=g a2 (by rw [hx]; simp)
 have g3:=g a3 (by rw [hx]; simp)
 have g4:=g a4 (by rw [hx]; simp)
 obtain ⟨t1,t3,t4,bm,br,n1,e3,e4,m1,r2,hd0,hd1,n3⟩:=bC2 (show n ≤ 60 by omega) A0 A1 A2 A3 A4 g1 g2 g3 g4
 have lt5 : ¬ ((xs.length : Nat) : Int) < 5:=by omega
 have N1 : M0 [.tuple xs] = some a1:=B2 (ρ:=[‹.tuple xs›]) rfl (by wp_walk using evD,at1,A1)
 have N0 : S9 [.tuple xs] = some a0:=B2 (ρ:=[‹.tuple xs›]) rfl (by wp_walk using evD,at3,A0)
 have N2 : ah5 [.tuple xs] = some a2:=B2 (ρ:=[‹.tuple xs›]) rfl (by wp_walk using evD,aG2,A2)
 have N2' : O0 [.tuple xs] = some a2:=B2 (ρ:=[‹.tuple xs›]) rfl (by wp_walk using evD,at9,A2)
 have N3 : P0 [.tuple xs] = some a3:=B2 (ρ:=[‹.tuple xs›]) rfl (by wp_walk using evD,aj4,A3)
 have N4 : f8 [.tuple xs] = some a4:=B2 (ρ:=[‹.tuple xs›]) rfl (by wp_walk using evD,aB0,A4)
 have T4 : f7 [a4] = some (.bool t4):=B2 (ρ:=[some (.val a4)]) rfl (by simp only [aA9,B5,D5,A6,xg0,xbs,xms,e4])
 have kl : ∀ t,eqD a0 (.str "layer") = some (.bool t) → ab8 [.tuple xs] = some (.bool t):=fun t h=>B2 (ρ:=[‹.tuple xs›]) rfl (by wp_walk using evD,aB1,N0,h)
 have kg : ∀ t,eqD a0 (.str "group") = some (.bool t) → M8 [.tuple xs] = some (.bool t):=fun t h=>B2 (ρ:=[‹.tuple xs›]) rfl (by wp_walk using evD,ab7,N0,h)
 have kt : ∀ t,eqD a0 (.str "tone") = some (.bool t) → ai0 [.tuple xs] = some (.bool t):=fun t h=>B2 (ρ:=[‹.tuple xs›]) rfl (by wp_walk using evD,aG8,N0,h)
 have d0 : dIx (B1 0) (dC (.int 0)) [‹.tuple xs›,‹.int k›] = some a0:=by simp only [dIx,B1,dC,xg0,xbs,A0]
 have p0 : (sIf (D0 (B6 (C3 (D5 "tuple" (A6 0)))) (tB2 ltI (E5 (B1 0)) (dC (.int 5)))) (B5 (dC (.bool false))) C7) [‹.tuple xs›,‹.int k›] = some (.nx [‹.tuple xs›,‹.int k›]):=by
  wp_walk using evD,lt5,decide_false
 have p1 : (t1 && (t3 && t4)) = true → (sIf (D0 (B6 (C3 (A9 U7 (A5 (A9 M0 (A5 (A6 0) A7)) A7)))) (D0 (B6 (C3 (A9 G1 (A5 (A9 P0 (A5 (A6 0) A7)) A7)))) (B6 (C3 (A9 f7 (A5 (A9 f8 (A5 (A6 0) A7)) A7)))))) (B5 (dC (.bool false))) C7) [‹.tuple xs›,‹.int k›] = some (.nx [‹.tuple xs›,‹.int k›]):=fun h=>by
  simp only [Bool.and_eq_true] at h
  obtain ⟨rfl,rfl,rfl⟩:=h
  wp_walk using evD,N1,N3,N4,n1,e3,T4
 have pf : (t1 && (t3 && t4)) = false → C1 (f + 1) [.tuple xs,.int k] = some (.bool false):=fun h=>by
  refine x9 ?_
  unfold F5
  rw [B7 p0]
  cases t1 with
  | false=>wp_walk using evD,N1,n1
  | true =>
   cases t3 with
   | false=>wp_walk using evD,N1,N3,n1,e3
   | true =>
    cases t4 with
    | false=>wp_walk using evD,N1,N3,N4,n1,e3,T4
    | true=>cases h
 have l0 : ∀ t,inD true a0 (.tuple [.str "layer", .str "group", .str "tone"]) = some (.bool t) → (D0 (B6 (C3 (D5 "tuple" (A6 0)))) (D0 (tB2 ltI (E5 (B1 0)) (dC (.int 5))) (tB2 (inD true) (dIx (B1 0) (dC (.int 0))) (C2 (A5 (dC (.str "layer")) (A5 (dC (.str "group")) (A5 (dC (.str "tone")) A7))))))) [‹.tuple xs›,‹.int k›] = some t:=fun t h=>by
  simp only [D0,B6,C3,tB2,B0,D5,E5,A6,B1,d0,dC,C2,A5,A7,K7,J6,C6,ai4,lt5,decide_false,xg0,xbs,xms,h,xnt,xft,if_false]
 have lf : ∀ t,inD true a0 (.tuple [.str "layer", .str "group", .str "tone"]) = some (.bool t) → J1 [.tuple xs] = some (.bool false) → B9 (j + 1) [.tuple xs,.int k] = some (.bool false):=fun t h hh=>by
  refine x4 ?_
  cases t with
  | true=>simp only [K2,B4,sIf,B5,l0 true h,dC,xbs,xms,if_true]
  | false=>simp only [K2,B4,sIf,B5,C7,l0 false h,B6,C3,A9,A5,A7,A6,xg0,hh,J6,xnf,dC,xbs,xms,xft,if_false,if_true]
 have hh : ∀ {b : Bool},(t1 && (t3 && t4)) = false → (t1 && (b && (t3 && t4))) = false:=fun {b} h=>by
  cases t1 <;> cases t3 <;> cases t4 <;> cases b <;> first | rfl | cases h
 have ht : ∀ {b : Bool},(t1 && (t3 && t4)) = true → (t1 && (b && (t3 && t4))) = b:=fun {b} h=>by
  cases t1 <;> cases t3 <;> cases t4 <;> cases b <;> first | rfl | cases h
 have lg : inD true a0 (.tuple [.str "layer", .str "group", .str "tone"]) = some (.bool false) → J1 [.tuple xs] = some (.bool true) → (sIf (B6 (C3 (A9 J1 (A5 (A6 0) A7)))) (B5 (dC (.bool false))) C7) [‹.tuple xs›,‹.int k›] = some (.nx [‹.tuple xs›,‹.int k›]) ∧ (sIf (D0 (B6 (C3 (D5 "tuple" (A6 0)))) (D0 (tB2 ltI (E5 (B1 0)) (dC (.int 5))) (tB2 (inD true) (dIx (B1 0) (dC (.int 0))) (C2 (A5 (dC (.str "layer")) (A5 (dC (.str "group")) (A5 (dC (.str "tone")) A7))))))) (B5 (dC (.bool false))) C7) [‹.tuple xs›,‹.int k›] = some (.nx [‹.tuple xs›,‹.int k›]):=fun h1 h2=>by
  refine ⟨?_,?_⟩
  ·simp only [sIf,C7,B6,C3,A9,A5,A7,A6,xg0,h2,J6,xnt,xbs,xms,xft,if_false]
  ·simp only [sIf,C7,l0 false h1,xbs,xft,if_false]
 cases hA : (t1 && (t3 && t4)) with
 | false =>
  refine ⟨false,pf hA,?_,fun z=>by cases z⟩
  rcases aR0 g0 (show n ≤ 60 by omega) with rfl | rfl | rfl | ⟨k1,k2,k3,k4⟩
  ·exact lf _ (kin "layer" (by decide +kernel)) (by rw [hd0 ca3,hh hA])
  ·exact lf _ (kin "group" (by decide +kernel)) (by rw [hd0 ca4,hh hA])
  ·exact lf _ (kin "tone" (by decide +kernel)) (by rw [hd1 bH6,hh hA])
  ·exact lf _ k4 (by rw [hd0 k3,hh hA])
 | true =>
  have t1t : t1 = true:=by cases t1 with | true=>rfl | false=>cases hA
  have p1:=p1 hA
  rcases aR0 g0 (show n ≤ 60 by omega) with rfl | rfl | rfl | ⟨k1,k2,k3,k4⟩
  ·
   have leaf : aV0 (.tuple xs) [a1]:=⟨_,_,_,by rw [hx],n3 t1t,cp6,rfl⟩
   have kb:=kin "layer" (by decide +kernel)
   have hdv : J1 [.tuple xs] = some (.bool bm):=by rw [hd0 ca3,ht hA]
   have prog : ∀ t,K6 [.tuple xs] = some (.bool t) → C1 (f + 1) [.tuple xs,.int k] = some (.bool t):=fun t h=>by
    refine x9 ?_
    unfold F5
    rw [B7 p0,B7 p1]
    wp_walk using evD,kl _ cw4,h
   have law : bm = true → ∀ t,bz6 [‹.tuple xs›,‹.int k›] = some (.rt (.bool t)) → B9 (j + 1) [.tuple xs,.int k] = some (.bool t):=fun hb t h=>by
    rw [hb] at hdv
    refine x4 ?_
    unfold K2
    rw [B7 (lg kb hdv).2,B7 (lg kb hdv).1]
    have s1 : (sIf (tB2 eqD (dIx (B1 0) (dC (.int 0))) (dC (.str "tone"))) (B5 (B0 eqD (E5 (B1 0)) (dC (.int 5)))) C7) [‹.tuple xs›,‹.int k›] = some (.nx [‹.tuple xs›,‹.int k›]):=by
     simp only [sIf,C7,tB2,B0,d0,dC,ca3,C6,xbs,xft,if_false]
    have s2 : ∀ z : DS,(sIf (tB2 eqD (dIx (B1 0) (dC (.int 0))) (dC (.str "group"))) z C7) [‹.tuple xs›,‹.int k›] = some (.nx [‹.tuple xs›,‹.int k›]):=fun z=>by
     simp only [sIf,C7,tB2,B0,d0,dC,cp6,C6,xbs,xft,if_false]
    rw [B7 s1,B7 (s2 _)]
    exact h
   by_cases l9 : xs.length = 9
   ·obtain ⟨a5,a6,a7,a8,hr⟩ : ∃ a5 a6 a7 a8,r = [a5,a6,a7,a8]:=by
     rw [hx] at l9
     match r,l9 with
     | [a5,a6,a7,a8],_=>exact ⟨a5,a6,a7,a8,rfl⟩
     | [],h=>simp at h
     | [_],h=>simp at h
     | [_,_],h=>simp at h
     | [_,_,_],h=>simp at h
     | _ :: _ :: _ :: _ :: _ :: _,h=>simp at h
    subst hr
    obtain ⟨t,u1,u2⟩:=ce6 (a0:=.str "layer") (a1:=a1) (a3:=a3) (a4:=a4) hn m1 (g a5 (by rw [hx]; simp)) (g a6 (by rw [hx]; simp)) (g a7 (by rw [hx]; simp)) (g a8 (by rw [hx]; simp)) (.int k)
    rw [← hx] at u1 u2
    refine ⟨bm && t,prog _ u1,?_,fun _=>.inl ⟨_,leaf,rfl⟩⟩
    cases hb : bm with
    | false=>rw [Bool.false_and]; rw [hb] at hdv; exact lf _ kb hdv
    | true=>rw [Bool.true_and]; exact law hb _ u2
   ·have e9 : (((xs.length : Nat) : Int) == 9) = false:=beq_eq_false_iff_ne.mpr (by omega)
    refine ⟨false,prog _ (B2 (ρ:=[‹.tuple xs›]) rfl (by wp_walk using evD,J2,e9)),?_,fun z=>by cases z⟩
    cases hb : bm with
    | false=>rw [hb] at hdv; exact lf _ kb hdv
    | true=>exact law hb _ (by wp_walk using evD,bz6,e9)
  ·
   have kb:=kin "group" (by decide +kernel)
   have hdv : J1 [.tuple xs] = some (.bool bm):=by rw [hd0 ca4,ht hA]
   have prog : ∀ t,C4 f [.tuple xs,.int k] = some (.bool t) → C1 (f + 1) [.tuple xs,.int k] = some (.bool t):=fun t h=>by
    refine x9 ?_
    have h' : A8 f 0 [.tuple xs,.int k] = some (.bool t):=h
    unfold F5
    rw [B7 p0,B7 p1]
    wp_walk using evD,kl _ cw5,kg _ bH7,h'
   have law : bm = true → ∀ t,aB9 (B9 j) [‹.tuple xs›,‹.int k›] = some (.rt (.bool t)) → B9 (j + 1) [.tuple xs,.int k] = some (.bool t):=fun hb t h=>by
    rw [hb] at hdv
    refine x4 ?_
    unfold K2
    rw [B7 (lg kb hdv).2,B7 (lg kb hdv).1]
    have s1 : (sIf (tB2 eqD (dIx (B1 0) (dC (.int 0))) (dC (.str "tone"))) (B5 (B0 eqD (E5 (B1 0)) (dC (.int 5)))) C7) [‹.tuple xs›,‹.int k›] = some (.nx [‹.tuple xs›,‹.int k›]):=by
     simp only [sIf,C7,tB2,B0,d0,dC,ca4,C6,xbs,xft,if_false]
    rw [B7 s1]
    have s2 : ∀ y z : DS,(B4 (sIf (tB2 eqD (dIx (B1 0) (dC (.int 0))) (dC (.str "group"))) y C7) z) [‹.tuple xs›,‹.int k›] = B4 y z [‹.tuple xs›,‹.int k›]:=fun y z=>by
     simp only [B4,sIf,tB2,B0,d0,dC,bH7,C6,xbs,if_true]
    rw [s2]
    exact bH3 (f:=aB9 (B9 j)) h
   by_cases l6 : xs.length = 6
   ·obtain ⟨a5,hr⟩ : ∃ a5,r = [a5]:=by
     rw [hx] at l6
     match r,l6 with
     | [a5],_=>exact ⟨a5,rfl⟩
     | [],h=>simp at h
     | _ :: _ :: _,h=>simp at h
    subst hr
    obtain ⟨t,u1,u2,u3⟩:=HG _ _ _ _ _ _ bm hx m1
    refine ⟨bm && t,prog _ u1,?_,fun z=>.inr ⟨a1,a2,a3,a4,a5,hx,n3 t1t,u3 (by cases t with | true=>rfl | false=>rw [Bool.and_false] at z; cases z)⟩⟩
    cases hb : bm with
    | false=>rw [Bool.false_and]; rw [hb] at hdv; exact lf _ kb hdv
    | true=>rw [Bool.true_and]; exact law hb _ u2
   ·have e6 : (((xs.length : Nat) : Int) == 6) = false:=beq_eq_false_iff_ne.mpr (by omega)
    refine ⟨false,prog _ (HG' l6),?_,fun z=>by cases z⟩
    cases hb : bm with
    | false=>rw [hb] at hdv; exact lf _ kb hdv
    | true=>exact law hb _ (by wp_walk using evD,aB9,e6)
  ·
   have leaf : aV0 (.tuple xs) [a1]:=⟨_,_,_,by rw [hx],n3 t1t,cp5,rfl⟩
   have kb:=kin "tone" (by decide +kernel)
   have hdv : J1 [.tuple xs] = some (.bool br):=by rw [hd1 bH6,ht hA]
   obtain ⟨q,e5⟩ : ∃ q,(((xs.length : Nat) : Int) == 5) = q:=⟨_,rfl⟩
   have prog : C1 (f + 1) [.tuple xs,.int k] = some (.bool (q && br)):=by
    refine x9 ?_
    unfold F5
    rw [B7 p0,B7 p1]
    cases q <;> wp_walk using evD,kl _ cw3,kg _ cp5,kt _ bH6,e5,N2,r2,Bool.true_and,Bool.false_and
   refine ⟨q && br,prog,?_,fun _=>.inl ⟨_,leaf,rfl⟩⟩
   cases hb : br with
   | false=>rw [Bool.and_false]; rw [hb] at hdv; exact lf _ kb hdv
   | true =>
    rw [hb] at hdv
    refine x4 ?_
    unfold K2
    rw [B7 (lg kb hdv).2,B7 (lg kb hdv).1,Bool.and_true]
    simp only [B4,sIf,B5,tB2,B0,d0,dC,E5,B1,bH6,C6,xg0,xbs,xms,if_true,g9,e5]
  ·
   refine ⟨false,?_,?_,fun z=>by cases z⟩
   ·refine x9 ?_
    unfold F5
    rw [B7 p0,B7 p1]
    wp_walk using evD,kl _ k1,kg _ k2,kt _ k3
   ·refine x4 ?_
    simp only [K2,B4,sIf,B5,l0 true k4,dC,xbs,xms,if_true]
end Lk20
namespace Lk20
open PySem G L2 Sh
theorem aE7 {xs : List D} (h : xs.length ≠ 6) (f : Nat) (k : D) : C4 (f + 1) [.tuple xs,k] = some (.bool false):=by
 have e6 : (((xs.length : Nat) : Int) == 6) = false:=beq_eq_false_iff_ne.mpr (by omega)
 refine B2 (g:=E1 (A8 f)) (ρ:=[‹.tuple xs›,some (.val k)]) rfl ?_
 wp_walk using evD,E1,e6
theorem aQ0 : ∀ (k e e' n : Nat) (d : D),n ≤ 59 → Gk n d → ∃ t,C1 (3 * k + 2 + e) [d,.int k] = some (.bool t) ∧ B9 (k + 1 + e') [d,.int k] = some (.bool t) ∧ (t = true → ∃ ns,Nds k d ns ∧ ns.length ≤ wt d):=by
 intro k
 induction k with
 | zero =>
  intro e e' n d hn g
  have f1 : 3 * 0 + 2 + e = (e + 1) + 1:=by omega
  have f2 : 0 + 1 + e' = e' + 1:=by omega
  rw [f1,f2]
  have other : K7 "tuple" d = some false → ∃ t,C1 (e + 1 + 1) [d,.int ((0 : Nat) : Int)] = some (.bool t) ∧ B9 (e' + 1) [d,.int ((0 : Nat) : Int)] = some (.bool t) ∧ (t = true → ∃ ns,Nds 0 d ns ∧ ns.length ≤ wt d):=fun h =>
   ⟨false,(y8 h (e + 1) e' _).1,(y8 h (e + 1) e' _).2,fun z=>by cases z⟩
  cases d with
  | none=>exact other rfl
  | bool _=>exact other rfl
  | int _=>exact other rfl
  | str _=>exact other rfl
  | list _=>exact other rfl
  | dict _=>cases n <;> exact g.elim
  | tuple xs =>
   cases n with
   | zero=>exact g.elim
   | succ n =>
   by_cases h5 : xs.length < 5
   ·exact ⟨false,(an5 h5 (e + 1) e' _).1,(an5 h5 (e + 1) e' _).2,fun z=>by cases z⟩
   ·obtain ⟨t,u1,u2,u3⟩:=aE0 (n:=n) (by omega) (xs:=xs) (by omega) g.2 0 (e + 1) e' (fun _=>False) (fun a0 a1 a2 a3 a4 a5 b hx hb=>by
     subst hx
     have q:=ck1 (n:=0) (a0:=a0) (a1:=a1) (a3:=a3) (a4:=a4) (a5:=a5) hb e (B9 e')
     exact ⟨false,by rw [Bool.and_false]; exact q.1,q.2,fun z=>by cases z⟩) (fun h6=>aE7 h6 e _)
    refine ⟨t,u1,u2,fun h=>?_⟩
    rcases u3 h with ⟨ns,hl,hn⟩ | ⟨_,_,_,_,_,_,_,z⟩
    ·exact ⟨ns,hl,by rw [hn,wt]; omega⟩
    ·exact z.elim
 | succ k ih =>
  intro e e' n d hn g
  have f1 : 3 * (k + 1) + 2 + e = (3 * k + 2 + e + 2) + 1:=by omega
  have f2 : k + 1 + 1 + e' = (k + 1 + e') + 1:=by omega
  rw [f1,f2]
  have other : K7 "tuple" d = some false → ∃ t,C1 (3 * k + 2 + e + 2 + 1) [d,.int ((k + 1 : Nat) : Int)] = some (.bool t) ∧ B9 (k + 1 + e' + 1) [d,.int ((k + 1 : Nat) : Int)] = some (.bool t) ∧ (t = true → ∃ ns,Nds (k + 1) d ns ∧ ns.length ≤ wt d):=fun h =>
   ⟨false,(y8 h (3 * k + 2 + e + 2) (k + 1 + e') _).1,(y8 h (3 * k + 2 + e + 2) (k + 1 + e') _).2,fun z=>by cases z⟩
  cases d with
  | none=>exact other rfl
  | bool _=>exact other rfl
  | int _=>exact other rfl
  | str _=>exact other rfl
  | list _=>exact other rfl
  | dict _=>cases n <;> exact g.elim
  | tuple xs =>
   cases n with
   | zero=>exact g.elim
   | succ n =>
   by_cases h5 : xs.length < 5
   ·exact ⟨false,(an5 h5 (3 * k + 2 + e + 2) (k + 1 + e') _).1,(an5 h5 (3 * k + 2 + e + 2) (k + 1 + e') _).2,fun z=>by cases z⟩
   ·let nb : D → Bool:=fun x=>@decide (B9 (k + 1 + e') [x,.int k] = some (.bool true)) (Classical.propDecidable _)
    have nbv : ∀ {x : D} {t : Bool},B9 (k + 1 + e') [x,.int k] = some (.bool t) → nb x = t:=fun {x t} h=>by
     cases t with
     | true=>exact @decide_eq_true _ (Classical.propDecidable _) h
     | false=>exact @decide_eq_false _ (Classical.propDecidable _) (by rw [h]; intro z; cases z)
    obtain ⟨t,u1,u2,u3⟩:=aE0 (n:=n) (by omega) (xs:=xs) (by omega) g.2 ((k + 1 : Nat) : Int) (3 * k + 2 + e + 2) (k + 1 + e') (fun a5=>∃ ks,a5 = .tuple ks ∧ ∃ ns,NdL (Nds k) ks ns ∧ ns.length ≤ wts ks) (fun a0 a1 a2 a3 a4 a5 b hx hb=>by
     have g5 : Gk n a5:=g.2 a5 (by rw [hx]; simp)
     subst hx
     cases n with
     | zero =>
      have q:=bC5 (n:=0) (by omega) (a0:=a0) (a1:=a1) (a3:=a3) (a4:=a4) hb (g5.mono (Nat.zero_le 1)) k (3 * k + 2 + e) (k + 1 + e') nb (fun x gx=>by
       obtain ⟨t,v1,v2,_⟩:=ih e e' 0 x (by omega) gx
       rw [nbv v2]; exact ⟨v1,v2⟩)
      obtain ⟨t,v1,v2,v3⟩:=q
      refine ⟨t,v1,v2,fun h=>?_⟩
      obtain ⟨ks,rfl,_⟩:=v3 h
      exact g5.elim
     | succ n =>
      obtain ⟨t,v1,v2,v3⟩:=bC5 (n:=n) (by omega) (a0:=a0) (a1:=a1) (a3:=a3) (a4:=a4) hb g5 k (3 * k + 2 + e) (k + 1 + e') nb (fun x gx=>by
       obtain ⟨t,v1,v2,_⟩:=ih e e' n x (by omega) gx
       rw [nbv v2]; exact ⟨v1,v2⟩)
      refine ⟨t,v1,v2,fun h=>?_⟩
      obtain ⟨ks,rfl,ha⟩:=v3 h
      refine ⟨ks,rfl,aY7 fun x hx=>?_⟩
      obtain ⟨t,w1,w2,w3⟩:=ih e e' n x (by omega) (g5.2 x hx)
      have:=List.all_eq_true.mp ha x hx
      rw [nbv w2] at this
      exact w3 this) (fun h6=>aE7 h6 _ _)
    refine ⟨t,u1,u2,fun h=>?_⟩
    rcases u3 h with ⟨ns,hl,hn⟩ | ⟨nm,a2,a3,a4,a5,hx,hs,ks,h5,ns,hL,hl⟩
    ·exact ⟨ns,.inl hl,by rw [hn,wt]; omega⟩
    ·refine ⟨nm :: ns,.inr ⟨nm,a2,a3,a4,ks,ns,by rw [hx,h5],hs,hL,rfl⟩,?_⟩
     rw [hx,h5]
     simp only [wt,wts,List.length_cons]
     omega
abbrev big : Nat:=16777000
theorem bL1 {f : Nat} : ∀ {k : Nat} {d : D} {ns : List D},Nds k d ns → (∀ ks nss,(∃ k',k = k' + 1 ∧ NdL (Nds k') ks nss) → nss.length ≤ big → D1 f [.tuple ks] = some (.list nss)) → ∀ (a0 : Option B) (X : List D),X.length + ns.length ≤ big → nmb f [a0,some (.own X),some (.val d)] = some (.nx [a0,some (.own (X ++ ns)),some (.val d)]):=by
 have leaf : ∀ {d : D} {ns : List D},aV0 d ns → ∀ (a0 : Option B) (X : List D),X.length + ns.length ≤ big → nmb f [a0,some (.own X),some (.val d)] = some (.nx [a0,some (.own (X ++ ns)),some (.val d)]):=fun {d ns} h a0 X hX=>by
  obtain ⟨b0,b1,r,rfl,_,hg,rfl⟩:=h
  have hx : X.length < 16777216:=by have : big = 16777000:=rfl; omega
  have A0 : atI (b0 :: b1 :: r) 0 = some b0:=O6 (j:=0) rfl
  have A1 : atI (b0 :: b1 :: r) 1 = some b1:=O6 (j:=1) rfl
  have N1 : M0 [.tuple (b0 :: b1 :: r)] = some b1:=B2 (ρ:=[‹.tuple (b0 :: b1 :: r)›]) rfl (by wp_walk using evD,at1,A1)
  have N0 : S9 [.tuple (b0 :: b1 :: r)] = some b0:=B2 (ρ:=[‹.tuple (b0 :: b1 :: r)›]) rfl (by wp_walk using evD,at3,A0)
  have kg : M8 [.tuple (b0 :: b1 :: r)] = some (.bool false):=B2 (ρ:=[‹.tuple (b0 :: b1 :: r)›]) rfl (by wp_walk using evD,ab7,N0,hg)
  wp_walk using evD,nmb,T1,N1,kg,if_pos hx
 intro k d ns h H a0 X hX
 cases k with
 | zero=>exact leaf h a0 X hX
 | succ k =>
  rcases h with h | ⟨nm,a2,a3,a4,ks,nss,rfl,_,hL,rfl⟩
  ·exact leaf h a0 X hX
  ·rw [List.length_cons] at hX
   have hb : big = 16777000:=rfl
   have hx : X.length < 16777216:=by omega
   have N1 : M0 [.tuple [.str "group", nm,a2,a3,a4,.tuple ks]] = some nm:=rfl
   have kg : M8 [.tuple [.str "group", nm,a2,a3,a4,.tuple ks]] = some (.bool true):=B2 (ρ:=[‹.tuple [.str "group", nm,a2,a3,a4,.tuple ks]›]) rfl (by
    have N0 : S9 [.tuple [.str "group", nm,a2,a3,a4,.tuple ks]] = some (.str "group"):=rfl
    wp_walk using evD,ab7,N0,bH7)
   have e1 : J5 [.tuple [.str "group", nm,a2,a3,a4,.tuple ks]] = some (.tuple ks):=rfl
   have e2:=H ks nss ⟨k,rfl,hL⟩ (by omega)
   have e3 : (X ++ [nm]).length + nss.length ≤ 16777216:=by rw [List.length_append]; show X.length + 1 + _ ≤ _; omega
   wp_walk using evD,nmb,T1,aX0,N1,kg,e1,e2,if_pos hx,if_pos e3,List.append_assoc
theorem aJ4 {f k : Nat} (H : ∀ ks nss,(∃ k',k = k' + 1 ∧ NdL (Nds k') ks nss) → nss.length ≤ big → D1 f [.tuple ks] = some (.list nss)) : ∀ {ks ns : List D},NdL (Nds k) ks ns → ∀ (a0 a2 : Option B) (X : List D),X.length + ns.length ≤ big → ∃ a2',al4 (C9 2) (nmb f) ks [a0,some (.own X),a2] = some (.nx [a0,some (.own (X ++ ns)),a2'])
 | [],ns,h,a0,a2,X,_=>by cases (show ns = [] from h); exact ⟨a2,by rw [List.append_nil]; rfl⟩
 | x :: ks,ns,h,a0,a2,X,hX=>by
  obtain ⟨n1,n2,p1,p2,rfl⟩:=h
  rw [List.length_append] at hX
  have e1:=bL1 p1 H a0 X (by omega)
  obtain ⟨a2',e2⟩:=aJ4 H p2 a0 (some (.val x)) (X ++ n1) (by rw [List.length_append]; omega)
  refine ⟨a2',?_⟩
  rw [List.append_assoc] at e2
  rw [al4]
  show ((nmb f [a0,some (.own X),some (.val x)]).bind _) = _
  rw [e1]
  exact e2
theorem bs3 : ∀ (k f : Nat) (ks ns : List D),NdL (Nds k) ks ns → ns.length ≤ big → D1 (k + 1 + f) [.tuple ks] = some (.list ns):=by
 intro k
 induction k with
 | zero =>
  intro f ks ns h hl
  have f1 : 0 + 1 + f = f + 1:=by omega
  rw [f1]
  obtain ⟨a2,e⟩:=aJ4 (f:=f) (k:=0) (fun ks nss hk _=>by obtain ⟨k',z,_⟩:=hk; omega) h (‹.tuple ks›) none [] (by simpa using hl)
  refine B2 (g:=V1 (D1 f)) (ρ:=[‹.tuple ks›,none,none]) rfl ?_
  have s0 : (U4 1 A7) [‹.tuple ks›,none,none] = some (.nx [‹.tuple ks›,some (.own []),none]):=rfl
  have s1 : (W3 (F0 (A6 0)) (C9 2) (nmb f)) [‹.tuple ks›,some (.own []),none] = some (.nx [‹.tuple ks›,some (.own ns),a2]):=e
  have s2 : (ak6 1 (B5 (A6 1))) [‹.tuple ks›,some (.own ns),a2] = some (.rt (.list ns)):=rfl
  exact (B7 s0).trans ((B7 s1).trans s2)
 | succ k ih =>
  intro f ks ns h hl
  have f1 : k + 1 + 1 + f = (k + 1 + f) + 1:=by omega
  rw [f1]
  obtain ⟨a2,e⟩:=aJ4 (f:=k + 1 + f) (k:=k + 1) (fun ks nss hk hl'=>by
   obtain ⟨k',z,hL⟩:=hk
   cases z
   exact ih f ks nss hL hl') h (‹.tuple ks›) none [] (by simpa using hl)
  refine B2 (g:=V1 (D1 (k + 1 + f))) (ρ:=[‹.tuple ks›,none,none]) rfl ?_
  have s0 : (U4 1 A7) [‹.tuple ks›,none,none] = some (.nx [‹.tuple ks›,some (.own []),none]):=rfl
  have s1 : (W3 (F0 (A6 0)) (C9 2) (nmb (k + 1 + f))) [‹.tuple ks›,some (.own []),none] = some (.nx [‹.tuple ks›,some (.own ns),a2]):=e
  have s2 : (ak6 1 (B5 (A6 1))) [‹.tuple ks›,some (.own ns),a2] = some (.rt (.list ns)):=rfl
  exact (B7 s0).trans ((B7 s1).trans s2)
end Lk20
namespace Lk20
open PySem G L2 Sh
def Nam (Z : List (D × D)) : Prop:=∀ z ∈ Z,∃ ys,z.1 = .tuple ys ∧ atI ys 1 = some z.2
theorem Nam.app {Z Y : List (D × D)} (h : Nam Z) (g : Nam Y) : Nam (Z ++ Y):=fun z hz=>(List.mem_append.mp hz).elim (h z) (g z)
theorem bQ7 {f : Nat} : ∀ {k : Nat} {d : D} {ns : List D},Nds k d ns → (∀ ks nss,(∃ k',k = k' + 1 ∧ NdL (Nds k') ks nss) → nss.length ≤ big → ∃ Z,Nam Z ∧ Z.map Prod.snd = nss ∧ G7 f [.tuple ks] = some (.list (Z.map Prod.fst))) → ns.length ≤ big →
  ∃ Z,Nam Z ∧ Z.map Prod.snd = ns ∧ ∀ (a0 : Option B) (X : List D),X.length + ns.length ≤ big → alb f [a0,some (.own X),some (.val d)] = some (.nx [a0,some (.own (X ++ Z.map Prod.fst)),some (.val d)]):=by
 have leaf : ∀ {d : D} {ns : List D},aV0 d ns → ∃ Z,Nam Z ∧ Z.map Prod.snd = ns ∧ ∀ (a0 : Option B) (X : List D),X.length + ns.length ≤ big → alb f [a0,some (.own X),some (.val d)] = some (.nx [a0,some (.own (X ++ Z.map Prod.fst)),some (.val d)]):=fun {d ns} h=>by
  obtain ⟨b0,b1,r,rfl,_,hg,rfl⟩:=h
  have A0 : atI (b0 :: b1 :: r) 0 = some b0:=O6 (j:=0) rfl
  have A1 : atI (b0 :: b1 :: r) 1 = some b1:=O6 (j:=1) rfl
  refine ⟨[(.tuple (b0 :: b1 :: r),b1)],fun z hz=>?_,rfl,fun a0 X hX=>?_⟩
  ·rw [List.mem_singleton.mp hz]; exact ⟨_,rfl,A1⟩
  ·have hx : X.length < 16777216:=by have : big = 16777000:=rfl; omega
   wp_walk using evD,alb,T1,A0,hg,if_pos hx
 intro k d ns h H hl
 cases k with
 | zero=>exact leaf h
 | succ k =>
  rcases h with h | ⟨nm,a2,a3,a4,ks,nss,rfl,_,hL,rfl⟩
  ·exact leaf h
  ·rw [List.length_cons] at hl
   obtain ⟨Z,z1,z2,z3⟩:=H ks nss ⟨k,rfl,hL⟩ (by omega)
   have zl : Z.length = nss.length:=by rw [← z2,List.length_map]
   refine ⟨(.tuple [.str "group", nm,a2,a3,a4,.tuple ks],nm) :: Z,fun z hz=>?_,by rw [xmc,z2],fun a0 X hX=>?_⟩
   ·rcases List.mem_cons.mp hz with rfl | hz
    ·exact ⟨_,rfl,rfl⟩
    ·exact z1 z hz
   ·rw [List.length_cons] at hX
    have hb : big = 16777000:=rfl
    have hx : X.length < 16777216:=by omega
    have s0 : (T1 1 (A6 2)) [a0,some (.own X),‹.tuple [.str "group", nm,a2,a3,a4,.tuple ks]›] = some (.nx [a0,some (.own (X ++ [.tuple [.str "group", nm,a2,a3,a4,.tuple ks]])),‹.tuple [.str "group", nm,a2,a3,a4,.tuple ks]›]):=by
     simp only [T1,xg0,xg1,if_pos hx,A6,xms,xw0,xw1]
    have hc : aB7 (B1 1) (qE (A9 (G7 f) (A5 (dIx (B1 2) (dC (.int 5))) A7))) [a0,some (.own (X ++ [.tuple [.str "group", nm,a2,a3,a4,.tuple ks]])),‹.tuple [.str "group", nm,a2,a3,a4,.tuple ks]›] = some (X ++ [.tuple [.str "group", nm,a2,a3,a4,.tuple ks]] ++ Z.map Prod.fst):=by
     have q2 : qE (A9 (G7 f) (A5 (dIx (B1 2) (dC (.int 5))) A7)) [a0,some (.own (X ++ [.tuple [.str "group", nm,a2,a3,a4,.tuple ks]])),‹.tuple [.str "group", nm,a2,a3,a4,.tuple ks]›] = some (false,Z.map Prod.fst):=by
      wp_walk using evD,bT7,z3
     unfold aB7
     rw [q2]
     show (if false = false ∧ false = false ∧ (X ++ [PyData.tuple [.str "group", nm,a2,a3,a4,.tuple ks]]).length + (Z.map Prod.fst).length ≤ 16777216 then some (X ++ [PyData.tuple [.str "group", nm,a2,a3,a4,.tuple ks]] ++ Z.map Prod.fst) else none) = _
     rw [if_pos ⟨rfl,rfl,by rw [List.length_append,List.length_map]; show X.length + 1 + Z.length ≤ _; omega⟩]
    have ht : tB2 eqD (dIx (B1 2) (dC (.int 0))) (dC (.str "group")) [a0,some (.own (X ++ [.tuple [.str "group", nm,a2,a3,a4,.tuple ks]])),‹.tuple [.str "group", nm,a2,a3,a4,.tuple ks]›] = some true:=by
     wp_walk using evD,bT8,bH7
    unfold alb
    rw [B7 s0]
    simp only [sIf,ht,xbs,if_true,U4,hc,xms,xw0,xw1,List.append_assoc,xmc,xca,xna]
theorem aM5 {f k : Nat} (H : ∀ ks nss,(∃ k',k = k' + 1 ∧ NdL (Nds k') ks nss) → nss.length ≤ big → ∃ Z,Nam Z ∧ Z.map Prod.snd = nss ∧ G7 f [.tuple ks] = some (.list (Z.map Prod.fst))) : ∀ {ks ns : List D},NdL (Nds k) ks ns → ns.length ≤ big →
  ∃ Z,Nam Z ∧ Z.map Prod.snd = ns ∧ ∀ (a0 a2 : Option B) (X : List D),X.length + ns.length ≤ big → ∃ a2',al4 (C9 2) (alb f) ks [a0,some (.own X),a2] = some (.nx [a0,some (.own (X ++ Z.map Prod.fst)),a2'])
 | [],ns,h,_=>by cases (show ns = [] from h); exact ⟨[],fun z hz=>absurd hz List.not_mem_nil,rfl,fun a0 a2 X _=>⟨a2,by rw [xmn,List.append_nil]; rfl⟩⟩
 | x :: ks,ns,h,hl=>by
  obtain ⟨n1,n2,p1,p2,rfl⟩:=h
  rw [List.length_append] at hl
  obtain ⟨Z1,u1,u2,u3⟩:=bQ7 p1 H (by omega)
  obtain ⟨Z2,v1,v2,v3⟩:=aM5 H p2 (by omega)
  refine ⟨Z1 ++ Z2,u1.app v1,by rw [List.map_append,u2,v2],fun a0 a2 X hX=>?_⟩
  rw [List.length_append] at hX
  have l1 : (Z1.map Prod.fst).length = n1.length:=by rw [← u2,List.length_map,List.length_map]
  obtain ⟨a2',e2⟩:=v3 a0 (some (.val x)) (X ++ Z1.map Prod.fst) (by rw [List.length_append,l1]; omega)
  refine ⟨a2',?_⟩
  rw [List.append_assoc,← List.map_append] at e2
  rw [al4]
  show ((alb f [a0,some (.own X),some (.val x)]).bind _) = _
  rw [u3 a0 X (by omega)]
  exact e2
theorem bQ5 : ∀ (k f : Nat) (ks ns : List D),NdL (Nds k) ks ns → ns.length ≤ big → ∃ Z,Nam Z ∧ Z.map Prod.snd = ns ∧ G7 (k + 1 + f) [.tuple ks] = some (.list (Z.map Prod.fst)):=by
 have fin : ∀ (f : Nat) (ks ns : List D) (Z : List (D × D)),ns.length ≤ big → (∀ (a0 a2 : Option B) (X : List D),X.length + ns.length ≤ big → ∃ a2',al4 (C9 2) (alb f) ks [a0,some (.own X),a2] = some (.nx [a0,some (.own (X ++ Z.map Prod.fst)),a2'])) → G7 (f + 1) [.tuple ks] = some (.list (Z.map Prod.fst)):=fun f ks ns Z hl h=>by
  obtain ⟨a2,e⟩:=h (‹.tuple ks›) none [] (by simpa using hl)
  refine B2 (g:=aw0 (G7 f)) (ρ:=[‹.tuple ks›,none,none]) rfl ?_
  have s0 : (U4 1 A7) [‹.tuple ks›,none,none] = some (.nx [‹.tuple ks›,some (.own []),none]):=rfl
  have s1 : (W3 (F0 (A6 0)) (C9 2) (alb f)) [‹.tuple ks›,some (.own []),none] = some (.nx [‹.tuple ks›,some (.own (Z.map Prod.fst)),a2]):=e
  have s2 : (ak6 1 (B5 (A6 1))) [‹.tuple ks›,some (.own (Z.map Prod.fst)),a2] = some (.rt (.list (Z.map Prod.fst))):=rfl
  exact (B7 s0).trans ((B7 s1).trans s2)
 intro k
 induction k with
 | zero =>
  intro f ks ns h hl
  have f1 : 0 + 1 + f = f + 1:=by omega
  rw [f1]
  obtain ⟨Z,z1,z2,z3⟩:=aM5 (f:=f) (k:=0) (fun ks nss hk _=>by obtain ⟨k',z,_⟩:=hk; omega) h hl
  exact ⟨Z,z1,z2,fin f ks ns Z hl z3⟩
 | succ k ih =>
  intro f ks ns h hl
  have f1 : k + 1 + 1 + f = (k + 1 + f) + 1:=by omega
  rw [f1]
  obtain ⟨Z,z1,z2,z3⟩:=aM5 (f:=k + 1 + f) (k:=k + 1) (fun ks nss hk hl'=>by
   obtain ⟨k',z,hL⟩:=hk
   cases z
   exact ih f ks nss hL hl') h hl
  exact ⟨Z,z1,z2,fin _ ks ns Z hl z3⟩
theorem aJ5 {P : D → List D → Prop} {S : D → Prop} (H : ∀ x n1,P x n1 → ∀ y ∈ n1,S y) : ∀ {ks ns : List D},NdL P ks ns → ∀ y ∈ ns,S y
 | [],ns,h=>by cases (show ns = [] from h); exact fun x hx=>absurd hx List.not_mem_nil
 | x :: ks,ns,h=>by
  obtain ⟨n1,n2,p1,p2,rfl⟩:=h
  intro y hy
  exact (List.mem_append.mp hy).elim (H x n1 p1 y) (aJ5 H p2 y)
theorem bL2 : ∀ (k : Nat) (d : D) (ns : List D),Nds k d ns → ∀ x ∈ ns,∃ s,x = .str s:=by
 have leaf : ∀ {d : D} {ns : List D},aV0 d ns → ∀ x ∈ ns,∃ s,x = .str s:=fun {d ns} h x hx=>by
  obtain ⟨_,b1,_,_,hs,_,rfl⟩:=h
  rw [List.mem_singleton.mp hx]; exact hs
 intro k
 induction k with
 | zero=>intro d ns h; exact leaf h
 | succ k ih =>
  intro d ns h
  rcases h with h | ⟨nm,a2,a3,a4,ks,nss,rfl,hs,hL,rfl⟩
  ·exact leaf h
  ·intro x hx
   rcases List.mem_cons.mp hx with rfl | hx
   ·exact hs
   ·exact aJ5 ih hL x hx
theorem bL3 {k : Nat} {ks ns : List D} (h : NdL (Nds k) ks ns) : ∀ x ∈ ns,∃ s,x = .str s:=aJ5 (bL2 k) h
theorem aN8 : ∀ L : List D,(∀ d ∈ L,∃ s,d = .str s) → ∃ ys : List Str,aD4 L = some ys ∧ ys.length = L.length
 | [],_=>⟨[],rfl,rfl⟩
 | d :: L,h=>by
  obtain ⟨ys,e2,l⟩:=aN8 L fun x hx=>h x (List.mem_cons_of_mem _ hx)
  obtain ⟨s,rfl⟩:=h d (List.mem_cons_self ..)
  exact ⟨s :: ys,by unfold aD4; rw [e2]; rfl,by rw [List.length_cons,List.length_cons,l]⟩
theorem aw3 {ks ns : List D} (h : NdL (Nds 3) ks ns) (hl : ns.length ≤ 4000) : ∃ t,L8 [.tuple ks] = some (.bool t) ∧ L5 [.tuple ks] = some (.bool t):=by
 have hb : big = 16777000:=rfl
 have e1 : D1 12 [.tuple ks] = some (.list ns):=bs3 3 8 ks ns h (by omega)
 obtain ⟨Z,z1,z2,z3⟩:=bQ5 3 8 ks ns h (by omega)
 have z3 : G7 12 [.tuple ks] = some (.list (Z.map Prod.fst)):=z3
 obtain ⟨ys,y1,y2⟩:=aN8 ns (bL3 h)
 have y4 : ys.length ≤ 4000:=by omega
 have fin : ∀ (a0 : Option B),B0 eqD (ah1 (B1 1)) (E5 (B1 1)) [a0,‹.list ns›] = some (.bool (((ddS ys).length : Int) == ((ns.length : Nat) : Int))):=fun a0=>by
  simp only [B0,ah1,E5,B1,Y6,xg0,xg1,xbs,xms,xft,if_false,y1,if_pos y4,g9]
 refine ⟨(((ddS ys).length : Int) == ((ns.length : Nat) : Int)),B2 (ρ:=[‹.tuple ks›,none]) rfl ?_,B2 (ρ:=[‹.tuple ks›,none]) rfl ?_⟩
 ·have s0 : (D3 1 (A9 (D1 12) (A5 (A6 0) A7))) [‹.tuple ks›,none] = some (.nx [‹.tuple ks›,‹.list ns›]):=by
   simp only [D3,A9,A5,A7,A6,xg0,xbs,xms,e1,xw0,xw1]
  unfold Z6
  rw [B7 s0]
  simp only [B5,fin,xms]
 ·have c : D2 1 [] (F0 (A9 (G7 12) (A5 (A6 0) A7))) (C9 0) F7 (dIx (B1 0) (dC (.int 1))) [‹.tuple ks›,none] = some ns:=by
   have src : F0 (A9 (G7 12) (A5 (A6 0) A7)) [‹.tuple ks›,none] = some (Z.map Prod.fst):=by
    simp only [F0,A9,A5,A7,A6,xg0,xbs,xms,z3]
   have zl : Z.length = ns.length:=by rw [← z2,List.length_map]
   unfold D2
   rw [src,xbs,if_pos (by rw [List.length_map]; omega),show n8 1 [] [some (B.val (PyData.tuple ks)),none] = [none] from rfl,bE8 (h:=Prod.fst) (f:=Prod.snd) Z none ?_,z2]
   intro z hz
   obtain ⟨zs,e1,e2⟩:=z1 z hz
   rw [e1]
   simp only [dIx,B1,dC,xg0,xbs,e2]
  have s0 : (P7 1 (D2 1 [] (F0 (A9 (G7 12) (A5 (A6 0) A7))) (C9 0) F7 (dIx (B1 0) (dC (.int 1))))) [‹.tuple ks›,none] = some (.nx [‹.tuple ks›,‹.list ns›]):=by
   simp only [P7,c,xms,xw0,xw1]
  unfold ae7
  rw [B7 s0]
  simp only [B5,fin,xms]
theorem aR4 {n : Nat} (hn : n ≤ 59) {d : D} (g : Gk n d) (hw : wt d ≤ 3900) : ∃ t,ai1 [d] = some (.bool t) ∧ (G9 (A9 (B9 12) (A5 (A6 0) (A5 (dC (.int 3)) A7))) (A9 L5 (A5 (C2 (A5 (A6 0) A7)) A7))) [some (.val d),none,none,none] = some (.bool t):=by
 obtain ⟨t,u1,u2,u3⟩:=aQ0 3 1 8 n d hn g
 have u1 : C1 12 [d,.int 3] = some (.bool t):=u1
 have u2 : B9 12 [d,.int 3] = some (.bool t):=u2
 cases t with
 | false =>
  refine ⟨false,B2 (ρ:=[some (.val d)]) rfl ?_,?_⟩
  ·wp_walk using evD,at4,u1
  ·wp_walk using evD,u2
 | true =>
  obtain ⟨ns,h1,h2⟩:=u3 rfl
  obtain ⟨t,v1,v2⟩:=aw3 (ks:=[d]) (ns:=ns) ⟨ns,[],h1,rfl,by rw [List.append_nil]⟩ (by omega)
  refine ⟨t,B2 (ρ:=[some (.val d)]) rfl ?_,?_⟩
  ·wp_walk using evD,at4,u1,v1
  ·wp_walk using evD,u2,v2
theorem ay8 {n : Nat} (hn : n ≤ 59) {d : D} (g : Gk n d) (hw : wt d ≤ 3900) : ∃ t,Q8 [d] = some (.bool t) ∧ N9 [d] = some (.bool t):=by
 have other : K7 "tuple" d = some false → ∃ t,Q8 [d] = some (.bool t) ∧ N9 [d] = some (.bool t):=fun h=>by
  have z : K3 [d] = some (.bool false):=by
   refine B2 (ρ:=[some (.val d)]) rfl ?_
   simp only [Q1,B4,sIf,D0,B6,C3,D5,A6,xg0,xbs,xms,h,J6,xnf,if_true,B5,dC]
  refine ⟨false,B2 (ρ:=[some (.val d)]) rfl ?_,B2 (ρ:=[some (.val d)]) rfl ?_⟩
  ·wp_walk using evD,O9,z
  ·simp only [L4,B4,sIf,D0,B6,C3,D5,A6,xg0,xbs,xms,h,J6,xnf,if_true,B5,dC]
 have long : ∀ xs : List D,xs.length ≠ 3 → d = .tuple xs → ∃ t,Q8 [d] = some (.bool t) ∧ N9 [d] = some (.bool t):=fun xs h e=>by
  subst e
  have z : K3 [.tuple xs] = some (.bool false):=by
   refine B2 (ρ:=[‹.tuple xs›]) rfl ?_
   wp_walk using evD,Q1,bL8 h
  refine ⟨false,B2 (ρ:=[‹.tuple xs›]) rfl ?_,B2 (ρ:=[‹.tuple xs›]) rfl ?_⟩
  ·wp_walk using evD,O9,z
  ·wp_walk using evD,L4,bL8 h
 cases d with
 | none=>exact other rfl
 | bool _=>exact other rfl
 | int _=>exact other rfl
 | str _=>exact other rfl
 | list _=>exact other rfl
 | dict _=>cases n <;> exact g.elim
 | tuple xs =>
  cases n with
  | zero=>exact g.elim
  | succ n =>
  by_cases h3 : xs.length = 3
  case neg=>exact long xs h3 rfl
  obtain ⟨a,b,c,rfl⟩ : ∃ a b c,xs = [a,b,c]:=by
   match xs,h3 with
   | [a,b,c],_=>exact ⟨a,b,c,rfl⟩
  have ga:=g.2 a (by simp)
  have gb:=g.2 b (by simp)
  have gc:=g.2 c (by simp)
  obtain ⟨ta,ea,ca,_⟩:=o9 (Gk.gd _ _ ga)
  obtain ⟨tb,eb,cb,_⟩:=o9 (Gk.gd _ _ gb)
  obtain ⟨⟨tc,ec⟩,_,_⟩:=bg4 gc
  have l3 : ((([a,b,c] : List D).length : Nat) : Int) = 3:=rfl
  have b3 : ((3 : Int) == 3) = true:=rfl
  have i2 : dIx (B1 0) (dC (.int 2)) [‹.tuple [a,b,c]›] = some c:=rfl
  have hi : D5 "tuple" (dIx (B1 0) (dC (.int 2))) [‹.tuple [a,b,c]›] = some (.bool tc):=by simp only [D5,i2,xbs,ec,xms]
  have hi0 : D5 "tuple" (A6 0) [‹.tuple [a,b,c]›] = some (.bool true):=rfl
  have g0 : dIx (B1 0) (dC (.int 0)) [‹.tuple [a,b,c]›] = some a:=rfl
  have g1 : dIx (B1 0) (dC (.int 1)) [‹.tuple [a,b,c]›] = some b:=rfl
  have sz : K3 [.tuple [a,b,c]] = some (.bool (ta && (tb && tc))):=by
   refine B2 (ρ:=[‹.tuple [a,b,c]›]) rfl ?_
   cases ta <;> cases tb <;> simp only [Q1,B4,sIf,C7,B5,D0,B6,C3,tB2,B0,E5,A9,A5,A7,G9,hi,hi0,g0,g1,B1,dC,A6,xg0,xbs,xms,l3,S2,b3,C6,J6,xnt,xnf,xft,if_true,if_false,ea,eb,Bool.true_and,Bool.false_and]
  cases tc with
  | false =>
   rw [Bool.and_false,Bool.and_false] at sz
   refine ⟨false,B2 (ρ:=[‹.tuple [a,b,c]›]) rfl ?_,B2 (ρ:=[‹.tuple [a,b,c]›]) rfl ?_⟩
   ·wp_walk using evD,O9,sz
   ·simp only [L4,B4,sIf,B5,D0,B6,C3,tB2,B0,E5,hi,hi0,B1,dC,A6,xg0,xbs,xms,l3,S2,b3,C6,J6,xnt,xnf,xft,if_true,if_false]
  | true =>
   obtain ⟨ks,rfl⟩ : ∃ ks,c = .tuple ks:=by cases c <;> first | exact ⟨_,rfl⟩ | cases ec
   cases n with
   | zero=>exact gc.elim
   | succ n =>
   have gk : ∀ x ∈ ks,Gk n x:=gc.2
   have s0 : (sIf (D0 (B6 (C3 (D5 "tuple" (A6 0)))) (D0 (tB2 neD (E5 (B1 0)) (dC (.int 3))) (B6 (C3 (D5 "tuple" (dIx (B1 0) (dC (.int 2)))))))) (B5 (dC (.bool false))) C7) [‹.tuple [a,b,.tuple ks]›] = some (.nx [‹.tuple [a,b,.tuple ks]›]):=by
    simp only [sIf,C7,D0,B6,C3,tB2,B0,E5,hi,hi0,B1,dC,A6,xg0,xbs,xms,l3,S2,b3,C6,J6,xnt,xnf,xft,if_true,if_false]
   have flt : D2 1 [] (F0 (al6 (A6 0) J8 (E3 (dC (.int 2))))) (C9 0) (D0 (B6 (C3 (A9 C8 (A5 (A6 0) A7)))) (B6 (Y4 (D9 leI leI (dC (.int 1)) (A6 0) (dC (.int 8)))))) (A6 0) [‹.tuple [a,b,.tuple ks]›] = some (([(a,ta),(b,tb)].filter fun z=>!z.2).map Prod.fst):=by
    refine W8 (l:=[(a,ta),(b,tb)]) (h:=Prod.fst) (f:=Prod.fst) (p:=fun z=>!z.2) (r:=[]) rfl rfl (by show 2 ≤ 1000; decide) ?_ fun z _=>rfl
    intro z hz
    simp only [List.mem_cons,List.not_mem_nil,or_false] at hz
    rcases hz with rfl | rfl
    ·exact ca
    ·exact cb
   have en:=(af2 (n:=n + 1) (f:=Prod.fst) (l:=[(a,ta),(b,tb)]) (p:=Prod.snd) (fun z hz=>by
    simp only [List.mem_cons,List.not_mem_nil,or_false] at hz
    rcases hz with rfl | rfl
    ·exact ga
    ·exact gb) (by show 2 ≤ 64; decide) (by omega)).2
   have al : ([(a,ta),(b,tb)] : List (D × Bool)).all Prod.snd = (ta && tb):=by simp
   rw [al] at en
   rw [Bool.and_true] at sz
   cases o : (ta && tb) with
   | false =>
    rw [o] at en sz
    refine ⟨false,B2 (ρ:=[‹.tuple [a,b,.tuple ks]›]) rfl ?_,B2 (ρ:=[‹.tuple [a,b,.tuple ks]›]) rfl ?_⟩
    ·wp_walk using evD,O9,sz
    ·unfold L4
     rw [B7 s0]
     simp only [B4,sIf,B5,tB2,B0,E4,flt,dC,A7,xbs,xms,en,C6,xnf,if_true]
   | true =>
    rw [o] at en sz
    let nb : D → Bool:=fun x=>@decide (B9 12 [x,.int 3] = some (.bool true)) (Classical.propDecidable _)
    have nbv : ∀ x,Gk n x → C1 11 [x,.int 3] = some (.bool (nb x)) ∧ B9 12 [x,.int 3] = some (.bool (nb x)) ∧ (nb x = true → ∃ ns,Nds 3 x ns ∧ ns.length ≤ wt x):=fun x gx=>by
     obtain ⟨t,u1,u2,u3⟩:=aQ0 3 0 8 n x (by omega) gx
     have u1 : C1 11 [x,.int 3] = some (.bool t):=u1
     have u2 : B9 12 [x,.int 3] = some (.bool t):=u2
     have : nb x = t:=by
      cases t with
      | true=>exact @decide_eq_true _ (Classical.propDecidable _) u2
      | false=>exact @decide_eq_false _ (Classical.propDecidable _) (by rw [u2]; intro z; cases z)
     rw [this]; exact ⟨u1,u2,u3⟩
    have c1 : D2 1 [1] (F0 (A6 0)) (C9 0) F7 (A9 (A8 11 1) (A5 (A6 0) (A5 (A6 1) A7))) [‹.tuple ks›,‹.int 3›] = some (ks.map fun y=>.bool (nb y)):=by
     refine y9 (l:=ks) (h:=id) (r:=[‹.int 3›]) rfl (by rw [List.map_id]; rfl) (by have:=gc.1; omega) fun y hy=>?_
     have h' : A8 11 1 [y,.int 3] = some (.bool (nb y)):=(nbv y (gk y hy)).1
     wp_walk using evD,id,h'
    have an : M4 12 [.tuple ks,.int 3] = some (.bool (ks.all nb)):=by
     refine B2 (g:=Q3 (A8 11)) (ρ:=[‹.tuple ks›,‹.int 3›]) rfl ?_
     have hi : D5 "tuple" (A6 0) [‹.tuple ks›,‹.int 3›] = some (.bool true):=rfl
     simp only [Q3,B5,G9,hi,U6,qN,c1,xbs,xms,xft,if_false,t5]
    have c2 : D2 1 [] (F0 (dIx (B1 0) (dC (.int 2)))) (C9 0) (B6 (C3 (A9 (B9 12) (A5 (A6 0) (A5 (dC (.int 3)) A7))))) (A6 0) [‹.tuple [a,b,.tuple ks]›] = some ((ks.filter fun y=>!nb y).map id):=by
     refine W8 (l:=ks) (h:=id) (f:=id) (p:=fun y=>!nb y) (r:=[]) rfl (by rw [List.map_id]; rfl) (by have:=gc.1; omega) (fun y hy=>?_) fun y _=>rfl
     wp_walk using evD,id,(nbv y (gk y hy)).2.1
    have e:=(af2 (n:=n) (f:=id) (l:=ks) (p:=nb) gk gc.1 (by omega)).1
    have s1 : (sIf (tB2 neD (E4 (D2 1 [] (F0 (al6 (A6 0) J8 (E3 (dC (.int 2))))) (C9 0) (D0 (B6 (C3 (A9 C8 (A5 (A6 0) A7)))) (B6 (Y4 (D9 leI leI (dC (.int 1)) (A6 0) (dC (.int 8)))))) (A6 0))) (E4 A7)) (B5 (dC (.bool false))) C7) [‹.tuple [a,b,.tuple ks]›] = some (.nx [‹.tuple [a,b,.tuple ks]›]):=by
     simp only [sIf,C7,tB2,B0,E4,flt,dC,A7,xbs,xms,en,C6,xnt,xft,if_false]
    cases q : ks.all nb with
    | false =>
     rw [q] at an e
     refine ⟨false,B2 (ρ:=[‹.tuple [a,b,.tuple ks]›]) rfl ?_,B2 (ρ:=[‹.tuple [a,b,.tuple ks]›]) rfl ?_⟩
     ·simp only [O9,B5,G9,A9,A5,A7,A6,dC,i2,xg0,xbs,xms,sz,an]
     ·unfold L4
      rw [B7 s0,B7 s1]
      simp only [B5,G9,B0,E4,c2,A7,xbs,xms,e]
    | true =>
     rw [q] at an e
     obtain ⟨ns,h1,h2⟩:=aY7 (P:=Nds 3) (ks:=ks) fun x hx=>(nbv x (gk x hx)).2.2 (List.all_eq_true.mp q x hx)
     have hw' : wts ks ≤ 3900:=by simp only [wt,wts] at hw; omega
     obtain ⟨t,v1,v2⟩:=aw3 h1 (by omega)
     refine ⟨t,B2 (ρ:=[‹.tuple [a,b,.tuple ks]›]) rfl ?_,B2 (ρ:=[‹.tuple [a,b,.tuple ks]›]) rfl ?_⟩
     ·simp only [O9,B5,G9,A9,A5,A7,A6,dC,i2,xg0,xbs,xms,sz,an,v1]
     ·unfold L4
      rw [B7 s0,B7 s1]
      simp only [B5,G9,B0,E4,c2,A7,A9,A5,i2,xbs,xms,e,v2]
theorem aW9 {n : Nat} (hn : n ≤ 59) {d : D} (g : Gk n d) (hw : wt d ≤ 3900) : Q5 [d] = some (.bool true):=by
 obtain ⟨t,u1,u2⟩:=aR4 hn g hw
 obtain ⟨p,v1,v2⟩:=ay8 hn g hw
 refine B2 (ρ:=[some (.val d),none,none,none]) rfl ?_
 have s0 : (D3 1 (G9 (A9 (B9 12) (A5 (A6 0) (A5 (dC (.int 3)) A7))) (A9 L5 (A5 (C2 (A5 (A6 0) A7)) A7)))) [some (.val d),none,none,none] = some (.nx [some (.val d),‹.bool t›,none,none]):=by
  simp only [D3,u2,xms,xw0,xw1]
 unfold ae6
 rw [B7 s0]
 have nn : ∀ b : Bool,neD (.bool b) (.bool b) = some (.bool false):=fun b=>by cases b <;> rfl
 wp_walk using evD,W3,al4,v1,v2,u1,nn,List.length_cons,List.length_nil
end Lk20
namespace Lk20
open PySem G L2 Sh
theorem Sk.mono : ∀ {m n : Nat} {d : D},Sk m d → m ≤ n → Sk n d:=by
 intro m
 induction m with
 | zero =>
  intro n d g h
  cases d <;> first | exact g.elim | (cases n <;> exact g)
 | succ m ih =>
  intro n d g h
  obtain ⟨n,rfl⟩ : ∃ k,n = k + 1:=⟨n - 1,by omega⟩
  cases d with
  | tuple xs=>exact ⟨g.1,fun x hx=>ih (g.2 x hx) (by omega)⟩
  | list xs=>exact g.elim
  | none=>exact trivial
  | bool b=>exact trivial
  | int i=>exact g
  | str x=>exact g
  | dict _=>exact g.elim
theorem W1 (n : Nat) (x : Str) (h : x.cps.all (· < 128) = true) (hl : x.cps.size ≤ 100) : Sk n (.str x):=by cases n <;> exact ⟨h,hl⟩
theorem ae9 (n : Nat) (b : Bool) : Sk n (.bool b):=by cases n <;> exact trivial
theorem T5 (n : Nat) (i : Int) (h : i.natAbs < 2 ^ 30) : Sk n (.int i):=by cases n <;> exact h
theorem M5 {n : Nat} {xs : List D} (h : xs.length ≤ 16) (g : ∀ x ∈ xs,Sk n x) : Sk (n + 1) (.tuple xs):=⟨h,g⟩
theorem P6 {n : Nat} : ∀ x ∈ ([] : List D),Sk n x:=fun x hx=>absurd hx List.not_mem_nil
theorem C0 {n : Nat} {x : D} {xs : List D} (h : Sk n x) (g : ∀ y ∈ xs,Sk n y) : ∀ y ∈ x :: xs,Sk n y:=fun y hy=>(List.mem_cons.mp hy).elim (fun e=>e ▸ h) (g y)
theorem bu6 {d : D} (h : Nm d) (n : Nat) : Sk n d:=by
 obtain ⟨s,rfl,h1,h2,h3⟩:=h
 refine W1 n s ?_ (Nat.le_trans h3 (by decide))
 rw [← Array.all_toList,List.all_eq_true]
 intro c hc
 have:=h1 c hc
 exact decide_eq_true (by omega)
theorem at6 {k : Nat} {r : Rat} (h : Bd k r) (hk : k ≤ 30) (n : Nat) : Sk (n + 1) (fr r):=by
 have h:=h.mono hk
 exact M5 (by show 2 ≤ 16; decide) (C0 (T5 n _ h.num) (C0 (T5 n _ (by rw [Int.natAbs_natCast]; exact h.den)) P6))
theorem aN3 (r : Rat) : wt (fr r) = 3:=by unfold fr; simp [wt,wts]
theorem aG9 {α : Type} {f : α → D} {c : Nat} : ∀ {l : List α},(∀ a ∈ l,wt (f a) ≤ c) → wts (l.map f) ≤ c * l.length
 | [],_=>by simp [wts]
 | a :: l,h=>by
  have h1:=h a (List.mem_cons_self ..)
  have h2:=aG9 (l:=l) (fun b hb=>h b (List.mem_cons_of_mem _ hb))
  rw [xmc,wts,List.length_cons,Nat.mul_succ]; omega
theorem co8 {q : Q4} (h : q.ok 8) (n : Nat) : Sk (n + 2) q.d:=M5 (by show 4 ≤ 16; decide) (C0 (at6 h.hc.bd (by decide) n) (C0 (at6 h.hx (by decide) n) (C0 (at6 h.hy (by decide) n) (C0 (at6 h.hz (by decide) n) P6))))
theorem cn2 (q : Q4) : wt q.d = 13:=by
 show wt (.tuple [fr q.c,fr q.x,fr q.y,fr q.z]) = 13
 simp [wt,wts,aN3]
theorem bz0 (m : Man) (n : Nat) : Sk n (.str m.s):=by cases m <;> exact W1 n _ (by decide +kernel) (by decide +kernel)
theorem ca2 (r : Rul) (n : Nat) : Sk n (.str r.s):=by cases r <;> exact W1 n _ (by decide +kernel) (by decide +kernel)
theorem cr5 (n : Nat) : Sk n (.str "layer"):=W1 n _ (by decide +kernel) (by decide +kernel)
theorem bz3 (n : Nat) : Sk n (.str "group"):=W1 n _ (by decide +kernel) (by decide +kernel)
theorem bS5 (n : Nat) : Sk n (.str "tone"):=W1 n _ (by decide +kernel) (by decide +kernel)
theorem by1 {d : D} (h : Nm d) : wt d = 1:=by obtain ⟨s,rfl,_⟩:=h; rfl
theorem bL0 (n : Nd) : 1 ≤ n.nms.length:=by cases n <;> (rw [Nd.nms]; simp)
theorem aY6 : ∀ l : List Nd,l.length ≤ (Nd.nmss l).length
 | []=>Nat.zero_le _
 | n :: l=>by have:=bL0 n; have:=aY6 l; rw [Nd.nmss,List.length_append,List.length_cons]; omega
theorem bS4 : ∀ (k : Nat) (n : Nd),n.dp ≤ k → n.Ok → n.near → (∀ d ∈ n.nms,Nm d) → n.nms.length ≤ 16 → Sk (2 * k + 5) n.d ∧ wt n.d ≤ 165 * n.nms.length:=by
 have leafT : ∀ (nm : D) (r : Rul) (s : Rat) (sh : Bool),Sr 4 s → Nm nm → Sk 5 (Nd.d (.tone nm r s sh)) ∧ wt (Nd.d (.tone nm r s sh)) ≤ 165:=fun nm r s sh hs hn=>by
  rw [Nd.d]
  refine ⟨M5 (by show 5 ≤ 16; decide) (C0 (bS5 _) (C0 (bu6 hn _) (C0 (ca2 r _) (C0 (at6 hs.h.bd (by decide) 3) (C0 (ae9 _ _) P6))))),?_⟩
  simp only [wt,wts,aN3,by1 hn]
  decide
 have leafL : ∀ (nm : D) (m : Man) (s : Rat) (sh : Bool) (lf tp : Int) (mk : Option (List Rat)) (w h : Nat) (l : List Q4) (kb : Nat),Nd.Ok (.layer nm m s sh lf tp mk w h l kb) → Nd.near (.layer nm m s sh lf tp mk w h l kb) → Nm nm → Sk 5 (Nd.d (.layer nm m s sh lf tp mk w h l kb)) ∧ wt (Nd.d (.layer nm m s sh lf tp mk w h l kb)) ≤ 165:=fun nm m s sh lf tp mk w h l kb ok nr hn=>by
  rw [Nd.Ok] at ok
  rw [Nd.near] at nr
  obtain ⟨hs,S,_,hm,_⟩:=ok
  obtain ⟨f1,f2,f3,f4,_,w3,h3,hq⟩:=nr
  have wh : w * h ≤ 9:=Nat.mul_le_mul w3 h3
  have ll : l.length ≤ 9:=by rw [S.len]; exact wh
  have mkS : Sk 4 (mkD mk) ∧ wt (mkD mk) ≤ 28:=by
   cases mk with
   | none=>exact ⟨trivial,by show 1 ≤ 28; decide⟩
   | some ms =>
    obtain ⟨m1,m2⟩:=hm ms rfl
    refine ⟨M5 (by rw [List.length_map,m1]; omega) fun x hx=>?_,?_⟩
    ·obtain ⟨r,hr,rfl⟩:=List.mem_map.mp hx
     exact at6 (m2 r hr).h.bd (by decide) 2
    ·show wt (.tuple (ms.map fr)) ≤ 28
     have:=aG9 (f:=fr) (c:=3) (l:=ms) fun a _=>Nat.le_of_eq (aN3 a)
     rw [wt]; rw [m1] at this; omega
  have shS : Sk 4 (shD w h l) ∧ wt (shD w h l) ≤ 121:=by
   refine ⟨M5 (by show 3 ≤ 16; decide) (C0 (T5 _ _ (by omega)) (C0 (T5 _ _ (by omega)) (C0 (M5 (by rw [List.length_map]; omega) fun x hx=>?_) P6))),?_⟩
   ·obtain ⟨q,hq',rfl⟩:=List.mem_map.mp hx
    exact co8 (hq q hq') 0
   ·have:=aG9 (f:=Q4.d) (c:=13) (l:=l) fun a _=>Nat.le_of_eq (cn2 a)
    unfold shD
    simp only [wt,wts]; omega
  rw [Nd.d]
  refine ⟨M5 (by show 9 ≤ 16; decide) (C0 (cr5 _) (C0 (bu6 hn _) (C0 (bz0 m _) (C0 (at6 hs.h.bd (by decide) 3) (C0 (ae9 _ _) (C0 (T5 _ _ (by omega)) (C0 (T5 _ _ (by omega)) (C0 mkS.1 (C0 shS.1 P6))))))))),?_⟩
  have:=mkS.2
  have:=shS.2
  simp only [wt,wts,aN3,by1 hn]
  omega
 intro k
 induction k with
 | zero =>
  intro n hd ok nr hn hl
  cases n with
  | layer nm m s sh lf tp mk w h l kb=>rw [Nd.nms] at hn ⊢; exact leafL nm m s sh lf tp mk w h l kb ok nr (hn _ (by simp))
  | tone nm r s sh=>rw [Nd.nms] at hn ⊢; rw [Nd.Ok] at ok; exact leafT nm r s sh ok (hn _ (by simp))
  | group nm m s sh ns=>rw [Nd.dp] at hd; omega
 | succ k ih =>
  intro n hd ok nr hn hl
  cases n with
  | layer nm m s sh lf tp mk w h l kb =>
   rw [Nd.nms] at hn ⊢
   have q:=leafL nm m s sh lf tp mk w h l kb ok nr (hn _ (by simp))
   exact ⟨Sk.mono q.1 (by omega),q.2⟩
  | tone nm r s sh =>
   rw [Nd.nms] at hn ⊢; rw [Nd.Ok] at ok
   have q:=leafT nm r s sh ok (hn _ (by simp))
   exact ⟨Sk.mono q.1 (by omega),q.2⟩
  | group nm m s sh ns =>
   rw [Nd.dp] at hd
   rw [Nd.Ok] at ok
   rw [Nd.near] at nr
   rw [Nd.nms] at hn hl ⊢
   rw [List.length_cons] at hl
   have hnm:=hn nm (by simp)
   have each : ∀ x ∈ ns,Sk (2 * k + 5) x.d ∧ wt x.d ≤ 165 * x.nms.length:=fun x hx=>by
    obtain ⟨a,b,e⟩:=List.append_of_mem hx
    have e2 : Nd.nmss ns = Nd.nmss a ++ (x.nms ++ Nd.nmss b):=by rw [e,M1,Nd.nmss]
    have d1:=j0 hx
    refine ih x (by omega) ((W7 ns).mp ok.2 x hx) ((Q6 ns).mp nr x hx) (fun d hd'=>hn d ?_) ?_
    ·rw [e2]; simp [hd']
    ·rw [e2,List.length_append,List.length_append] at hl; omega
   have sum : ∀ l : List Nd,(∀ x ∈ l,wt x.d ≤ 165 * x.nms.length) → wts (Nd.ds l) ≤ 165 * (Nd.nmss l).length:=fun l=>by
    induction l with
    | nil=>intro _; simp [Nd.ds,wts]
    | cons x l ihl =>
     intro h
     have h1:=h x (List.mem_cons_self ..)
     have h2:=ihl fun y hy=>h y (List.mem_cons_of_mem _ hy)
     rw [Nd.ds,wts,Nd.nmss,List.length_append,Nat.mul_add]; omega
   have sm:=sum ns fun x hx=>(each x hx).2
   have nl:=aY6 ns
   have dl : (Nd.ds ns).length = ns.length:=by rw [T7,List.length_map]
   rw [Nd.d]
   refine ⟨?_,?_⟩
   ·have : 2 * (k + 1) + 5 = (2 * k + 6) + 1:=by omega
    rw [this]
    refine M5 (by show 6 ≤ 16; decide) (C0 (bz3 _) (C0 (bu6 hnm _) (C0 (bz0 m _) (C0 (at6 ok.1.h.bd (by decide) _) (C0 (ae9 _ _) (C0 (M5 (by omega) fun x hx=>?_) P6))))))
    rw [T7] at hx
    obtain ⟨y,hy,rfl⟩:=List.mem_map.mp hx
    exact (each y hy).1
   ·simp only [wt,wts,aN3,by1 hnm,List.length_cons]
    omega
theorem bj2 {a : List Nd} {n : Nd} {b l : List Nd} (h : Stands a n b l) : Nd.Oks l → Nd.nears l → n.Ok ∧ n.near ∧ n.dp ≤ Nd.dps l ∧ n.nms.length ≤ (Nd.nmss l).length:=by
 induction h with
 | top =>
  intro o r
  have hm : n ∈ a ++ n :: b:=by simp
  refine ⟨(W7 _).mp o n hm,(Q6 _).mp r n hm,j0 hm,?_⟩
  rw [M1,Nd.nmss,List.length_append,List.length_append]; omega
 | @deep c e nm m s sh ns hs ih =>
  intro o r
  have hm : Nd.group nm m s sh ns ∈ c ++ .group nm m s sh ns :: e:=by simp
  have o1:=(W7 _).mp o _ hm
  have r1:=(Q6 _).mp r _ hm
  rw [Nd.Ok] at o1
  rw [Nd.near] at r1
  obtain ⟨q1,q2,q3,q4⟩:=ih o1.2 r1
  have d1:=j0 hm
  rw [Nd.dp] at d1
  refine ⟨q1,q2,by omega,?_⟩
  rw [M1,Nd.nmss,Nd.nms,List.length_append,List.length_append,List.length_cons]; omega
def Th (d : D) : Prop:=Gk 40 d ∧ wt d ≤ 3900
theorem aN7 {n w : Nat} {d : D} (h : Sk n d ∧ wt d ≤ w) (hn : n ≤ 40) (hw : w ≤ 3900) : Th d:=⟨(Sk.gk _ _ h.1).mono hn,by have:=h.2; omega⟩
abbrev ck0 (nm x : D) : D:=.tuple [.str "group", nm,.str "over", .tuple [.int 1,.int 1],.bool true,.tuple [x]]
theorem aH4 (n : Nat) (i j : Int) (hi : i.natAbs < 2 ^ 30) (hj : j.natAbs < 2 ^ 30) : Sk (n + 1) (.tuple [.int i,.int j]):=M5 (by show 2 ≤ 16; decide) (C0 (T5 _ _ hi) (C0 (T5 _ _ hj) P6))
theorem cj9 {nm x : D} {n w : Nat} (hnm : ∀ n,Sk n nm) (wn : wt nm = 1) (h : Sk n x ∧ wt x ≤ w) : Sk (n + 2) (ck0 nm x) ∧ wt (ck0 nm x) ≤ w + 12:=by
 have so : ∀ n,Sk n (.str "over"):=fun n=>W1 n _ (by decide +kernel) (by decide +kernel)
 refine ⟨M5 (by show 6 ≤ 16; decide) (C0 (bz3 _) (C0 (hnm _) (C0 (so _) (C0 (aH4 n 1 1 (by decide) (by decide)) (C0 (ae9 _ _) (C0 (M5 (by show 1 ≤ 16; decide) (C0 h.1 P6)) P6)))))),?_⟩
 have:=h.2
 simp only [wt,wts,wn]; omega
theorem bh7 {e : DE} {f : D → D} {s0 s1 s2 s3 s4 s5 s6 s8 : Option B} (H : ∀ (X : List D) (m : D),e [s0,s1,s2,s3,s4,s5,s6,some (.own X),s8,some (.val m)] = some (f m)) : ∀ (ms X : List D) (s9 : Option B),X.length + ms.length ≤ 1000 → ∃ s9',al4 (C9 9) (T1 7 e) ms [s0,s1,s2,s3,s4,s5,s6,some (.own X),s8,s9] = some (.nx [s0,s1,s2,s3,s4,s5,s6,some (.own (X ++ ms.map f)),s8,s9'])
 | [],X,s9,_=>⟨s9,by rw [xmn,List.append_nil]; rfl⟩
 | m :: ms,X,s9,hX=>by
  rw [List.length_cons] at hX
  obtain ⟨s9',q⟩:=bh7 H ms (X ++ [f m]) (some (.val m)) (by rw [List.length_append]; show X.length + 1 + _ ≤ _; omega)
  refine ⟨s9',?_⟩
  have a : T1 7 e [s0,s1,s2,s3,s4,s5,s6,some (.own X),s8,some (.val m)] = some (.nx [s0,s1,s2,s3,s4,s5,s6,some (.own (X ++ [f m])),s8,some (.val m)]):=by
   have hx : X.length < 16777216:=by omega
   show (if X.length < 16777216 then (e _).map _ else none) = _
   rw [if_pos hx,H X m]; rfl
  rw [al4]
  show ((T1 7 e [s0,s1,s2,s3,s4,s5,s6,some (.own X),s8,some (.val m)]).bind _) = _
  rw [a]
  rw [List.append_assoc] at q
  exact q
theorem bQ4 {e : DE} {d : D} {X : List D} {s0 s1 s2 s3 s4 s5 s6 s8 s9 : Option B} (hX : X.length ≤ 1000) (h : e [s0,s1,s2,s3,s4,s5,s6,some (.own X),s8,s9] = some d) : T1 7 e [s0,s1,s2,s3,s4,s5,s6,some (.own X),s8,s9] = some (.nx [s0,s1,s2,s3,s4,s5,s6,some (.own (X ++ [d])),s8,s9]):=by
 show (if X.length < 16777216 then (e _).map _ else none) = _
 rw [if_pos (by omega),h]; rfl
abbrev sp0 : D:=.tuple [.tuple [.int 1,.int 1],.tuple [.int 1,.int 1],.tuple [.int 0,.int 1],.tuple [.int 0,.int 1]]
abbrev bz4 (m : D) : D:=.tuple [.str "layer", .str "a", .str "over", .tuple [.int 1,.int 1],.bool true,.int 0,.int 0,m,.tuple [.int 2,.int 1,.tuple [sp0,sp0]]]
abbrev hf : D:=.tuple [.int 1,.int 2]
abbrev mks : List D:=[.tuple [hf],.tuple [hf,hf],.tuple [hf,hf,hf],.tuple [],.none,.list [hf,hf],.tuple [hf,.none],.tuple [hf,.tuple [.int 3,.int 2]]]
theorem ct0 (n : Nat) : Gk (n + 1) hf:=gk2 n 1 2 (by decide) (by decide)
theorem ce3 : ∀ m ∈ mks,Gk 5 m ∧ wt m ≤ 100:=by
 have h:=ct0 3
 intro m hm
 simp only [mks,List.mem_cons,List.not_mem_nil,or_false] at hm
 rcases hm with rfl | rfl | rfl | rfl | rfl | rfl | rfl | rfl
 ·exact ⟨L3 (by simp) (B8 h M6),by simp [wt,wts]⟩
 ·exact ⟨L3 (by simp) (B8 h (B8 h M6)),by simp [wt,wts]⟩
 ·exact ⟨L3 (by simp) (B8 h (B8 h (B8 h M6))),by simp [wt,wts]⟩
 ·exact ⟨L3 (by simp) M6,by simp [wt,wts]⟩
 ·exact ⟨aK4 _,by simp [wt]⟩
 ·exact ⟨aZ4 (by simp) (B8 h (B8 h M6)),by simp [wt,wts]⟩
 ·exact ⟨L3 (by simp) (B8 h (B8 (aK4 _) M6)),by simp [wt,wts]⟩
 ·exact ⟨L3 (by simp) (B8 h (B8 (gk2 3 3 2 (by decide) (by decide)) M6)),by simp [wt,wts]⟩
theorem ce7 {m : D} (h : Gk 5 m ∧ wt m ≤ 100) : Th (bz4 m):=by
 have s1 : ∀ n,Gk n (.str "layer"):=fun n=>Q0 n _ (by decide +kernel) (by decide +kernel)
 have s2 : ∀ n,Gk n (.str "a"):=fun n=>Q0 n _ (by decide +kernel) (by decide +kernel)
 have s3 : ∀ n,Gk n (.str "over"):=fun n=>Q0 n _ (by decide +kernel) (by decide +kernel)
 have p : ∀ n i j,i.natAbs < 2 ^ 40 → j.natAbs < 2 ^ 40 → Gk (n + 1) (.tuple [.int i,.int j]):=fun n i j=>gk2 n i j
 have sp : Gk 10 sp0:=L3 (by simp) (B8 (p 8 1 1 (by decide) (by decide)) (B8 (p 8 1 1 (by decide) (by decide)) (B8 (p 8 0 1 (by decide) (by decide)) (B8 (p 8 0 1 (by decide) (by decide)) M6))))
 have sh : Gk 12 (.tuple [.int 2,.int 1,.tuple [sp0,sp0]]):=L3 (by simp) (B8 (P4 _ _ (by decide)) (B8 (P4 _ _ (by decide)) (B8 (L3 (by simp) (B8 sp (B8 sp M6))) M6)))
 have g : Gk 13 (bz4 m):=L3 (by simp) (B8 (s1 _) (B8 (s2 _) (B8 (s3 _) (B8 (p 11 1 1 (by decide) (by decide)) (B8 (af1 _ _) (B8 (P4 _ _ (by decide)) (B8 (P4 _ _ (by decide)) (B8 (h.1.mono (by decide)) (B8 sh M6)))))))))
 refine ⟨g.mono (by decide),?_⟩
 have:=h.2
 simp only [wt,wts]; omega
abbrev tn6 : D:=.tuple [.str "tone", .str "a", .str "grey", .tuple [.int 1,.int 1],.bool true,.int 0]
abbrev tn4 : D:=.tuple [.str "tone", .str "a", .str "grey", .tuple [.int 1,.int 1]]
abbrev tno : D:=.tuple [.str "tone", .str "a", .str "over", .tuple [.int 1,.int 1],.bool true]
theorem cn5 : Th tn6 ∧ Th tn4 ∧ Th tno:=by
 have s1 : ∀ n,Gk n (.str "tone"):=fun n=>Q0 n _ (by decide +kernel) (by decide +kernel)
 have s2 : ∀ n,Gk n (.str "a"):=fun n=>Q0 n _ (by decide +kernel) (by decide +kernel)
 have s3 : ∀ n,Gk n (.str "over"):=fun n=>Q0 n _ (by decide +kernel) (by decide +kernel)
 have s4 : ∀ n,Gk n (.str "grey"):=fun n=>Q0 n _ (by decide +kernel) (by decide +kernel)
 have p : Gk 39 (.tuple [.int 1,.int 1]):=gk2 38 1 1 (by decide) (by decide)
 refine ⟨⟨L3 (by simp) (B8 (s1 _) (B8 (s2 _) (B8 (s4 _) (B8 p (B8 (af1 _ _) (B8 (P4 _ _ (by decide)) M6)))))),by simp [wt,wts]⟩,⟨L3 (by simp) (B8 (s1 _) (B8 (s2 _) (B8 (s4 _) (B8 p M6)))),by simp [wt,wts]⟩,⟨L3 (by simp) (B8 (s1 _) (B8 (s2 _) (B8 (s3 _) (B8 p (B8 (af1 _ _) M6))))),by simp [wt,wts]⟩⟩
abbrev E9 : D:=.tuple [.str "tone", .str "only", .str "grey", .tuple [.int 1,.int 2],.bool true]
theorem bK0 : Sk 9 E9 ∧ wt E9 ≤ 990:=by
 have s1 : ∀ n,Sk n (.str "only"):=fun n=>W1 n _ (by decide +kernel) (by decide +kernel)
 have s4 : ∀ n,Sk n (.str "grey"):=fun n=>W1 n _ (by decide +kernel) (by decide +kernel)
 exact ⟨M5 (by show 5 ≤ 16; decide) (C0 (bS5 _) (C0 (s1 _) (C0 (s4 _) (C0 (aH4 7 1 2 (by decide) (by decide)) (C0 (ae9 _ _) P6))))),by simp [wt,wts]⟩
theorem bQ8 : ∀ t : Nat,t < 4 → ∃ c : Nat,97 ≤ c ∧ c ≤ 100 ∧ atS "abcd" (t : Int) = some (.str ⟨#[c]⟩)
 | 0,_=>⟨97,by decide,by decide,rfl⟩
 | 1,_=>⟨98,by decide,by decide,rfl⟩
 | 2,_=>⟨99,by decide,by decide,rfl⟩
 | 3,_=>⟨100,by decide,by decide,rfl⟩
theorem main : ∀ ns : List Int,ns.length ≤ 63 → bi0 [.list (ns.map PyData.int)] = some (.bool true):=by
 intro ns hn
 obtain ⟨N,eN,hN,b,hP⟩:=by2 ns hn 0 6 (by decide) (by decide)
 have eN : u5 [scr ns,.int 0,.int 6] = some (.list N):=eN
 obtain ⟨w,h,l,ep,hl,hw,hh⟩:=aX4 ns hn 30 4 (by decide) (by decide) N (by omega)
 have ep : V9 [scr ns,.int 30,.int 4,.list N] = some (K5 w h l):=ep
 obtain ⟨is,q1_ix,q2,q3⟩:=hl.ix
 have nmv : ∀ j,j < 6 → ∃ y,N[j]? = some (.str (nmS b j y)) ∧ SOk y ∧ y.length ≤ 4:=fun j hj=>hP j hj
 have nm6 : ∀ j,j < 6 → Nm (N.getD j .none):=fun j hj=>by
  obtain ⟨y,e1,e2,e3⟩:=nmv j hj
  have z : (nmS b j y).length = y.length + 1:=by
   have lc : (ltr j).cps.size = 1:=rfl
   cases b
   ·show (y.cps ++ (ltr j).cps).size = _
    rw [Array.size_append,lc]; rfl
   ·show ((ltr j).cps ++ y.cps).size = _
    rw [Array.size_append,lc,Nat.add_comm]; rfl
  exact ⟨_,by rw [List.getD_eq_getElem?_getD,e1]; rfl,bf4 b (by omega) e2,by omega,by omega⟩
 have nmd : ∀ d ∈ Nd.nmss l,Nm d:=fun d hd=>by
  rw [q1_ix] at hd
  obtain ⟨j,hj,rfl⟩:=List.mem_map.mp hd
  exact nm6 j (by have:=q3 j hj; omega)
 have n6 : (Nd.nmss l).length ≤ 6:=by
  rw [q1_ix,List.length_map]
  have:=List.Nodup.length_le_of_subset q2 (l₂:=List.range 6) (fun j hj=>List.mem_range.mpr (by have:=q3 j hj; omega))
  rwa [List.length_range] at this
 have ld:=hl.dp
 have nl:=aY6 l
 have each : ∀ n : Nd,n.Ok → n.near → n.dp ≤ 2 → (∀ d ∈ n.nms,Nm d) → n.nms.length ≤ 6 → Sk 9 n.d ∧ wt n.d ≤ 990:=fun n a b c d e=>by
  have q:=bS4 2 n c a b d (by omega)
  exact ⟨q.1,by have:=q.2; omega⟩
 have inL : ∀ n ∈ l,Sk 9 n.d ∧ wt n.d ≤ 165 * n.nms.length:=fun n hn'=>by
  obtain ⟨a,c,e⟩:=List.append_of_mem hn'
  have e2 : Nd.nmss l = Nd.nmss a ++ (n.nms ++ Nd.nmss c):=by rw [e,M1,Nd.nmss]
  have d1:=j0 hn'
  refine bS4 2 n (by omega) ((W7 l).mp hl.ok n hn') ((Q6 l).mp hl.nr n hn') (fun d hd=>nmd d (by rw [e2]; simp [hd])) ?_
  rw [e2,List.length_append,List.length_append] at n6; omega
 have picS : Sk 11 (K5 w h l) ∧ wt (K5 w h l) ≤ 994:=by
  have sum : ∀ l : List Nd,(∀ x ∈ l,wt x.d ≤ 165 * x.nms.length) → wts (Nd.ds l) ≤ 165 * (Nd.nmss l).length:=fun l=>by
   induction l with
   | nil=>intro _; simp [Nd.ds,wts]
   | cons x l ihl =>
    intro h
    have h1:=h x (List.mem_cons_self ..)
    have h2:=ihl fun y hy=>h y (List.mem_cons_of_mem _ hy)
    rw [Nd.ds,wts,Nd.nmss,List.length_append,Nat.mul_add]; omega
  have sm:=sum l fun x hx=>(inL x hx).2
  have dl : (Nd.ds l).length = l.length:=by rw [T7,List.length_map]
  refine ⟨M5 (by show 3 ≤ 16; decide) (C0 (T5 _ _ (by omega)) (C0 (T5 _ _ (by omega)) (C0 (M5 (by omega) fun x hx=>?_) P6))),?_⟩
  ·rw [T7] at hx
   obtain ⟨n,hn',rfl⟩:=List.mem_map.mp hx
   exact (inL n hn').1
  ·unfold K5
   simp only [wt,wts]; omega
 obtain ⟨X,eX,lX,hX⟩:=cl6 2 l 12 (by omega) (by decide) (by have:=hl.wg; omega)
 have lX' : X.length ≤ 900:=by have:=hl.wg; omega
 have hX' : ∀ d ∈ X ++ [E9],Sk 9 d ∧ wt d ≤ 990:=fun d hd=>by
  rcases List.mem_append.mp hd with q | q
  ·obtain ⟨a,n,c,rfl,hs⟩:=hX d q
   obtain ⟨o1,o2,o3,o4⟩:=bj2 hs hl.ok hl.nr
   exact each n o1 o2 (by omega) (fun d hd=>nmd d (hs.nm d hd)) (by omega)
  ·rw [List.mem_singleton.mp q]; exact bK0
 have pos : 0 < (X ++ [E9]).length:=by simp
 obtain ⟨d22,e22,l22⟩:=V6 ns 22 (X ++ [E9]).length hn (by decide) pos
 have e22 : B3 [scr ns,.int 22,.int ((X ++ [E9]).length : Nat)] = some (.int d22):=e22
 obtain ⟨d23,e23,l23⟩:=V6 ns 23 4 hn (by decide) (by decide)
 have e23 : B3 [scr ns,.int 23,.int 4] = some (.int d23):=e23
 obtain ⟨d24,e24,_⟩:=V6 ns 24 100000000 hn (by decide) (by decide)
 have e24 : B3 [scr ns,.int 24,.int 100000000] = some (.int d24):=e24
 obtain ⟨d25,e25,l25⟩:=V6 ns 25 7 hn (by decide) (by decide)
 have e25 : B3 [scr ns,.int 25,.int 7] = some (.int d25):=e25
 obtain ⟨d26,e26,_⟩:=V6 ns 26 100000000 hn (by decide) (by decide)
 have e26 : B3 [scr ns,.int 26,.int 100000000] = some (.int d26):=e26
 obtain ⟨d27,e27,l27⟩:=V6 ns 27 6 hn (by decide) (by decide)
 have e27 : B3 [scr ns,.int 27,.int 6] = some (.int d27):=e27
 have pow8 : bk0 (.int 10) (.int 8) = some (.int 100000000):=rfl
 have s0 : aW5 [‹scr ns›,none,none,none,none,none,none,none,none,none] = some (.nx [‹scr ns›,‹.list N›,none,none,none,none,none,none,none,none]):=by wp_walk using evD,aW5,eN
 have s1 : aW4 [‹scr ns›,‹.list N›,none,none,none,none,none,none,none,none] = some (.nx [‹scr ns›,‹.list N›,‹K5 w h l›,none,none,none,none,none,none,none]):=by wp_walk using evD,aW4,ep
 have i2 : dIx (B1 2) (dC (.int 2)) [‹scr ns›,‹.list N›,‹K5 w h l›,none,none,none,none,none,none,none] = some (.tuple (Nd.ds l)):=rfl
 have cX : C5 (.list X) (.list [E9]) = some (.list (X ++ [E9])):=by
  show (if X.length + 1 ≤ 16777216 then _ else none) = _
  rw [if_pos (by omega)]
 have s2 : aW3 [‹scr ns›,‹.list N›,‹K5 w h l›,none,none,none,none,none,none,none] = some (.nx [‹scr ns›,‹.list N›,‹K5 w h l›,‹.list (X ++ [E9])›,none,none,none,none,none,none]):=by simp only [aW3,D3,B0,A9,A5,A7,i2,E4,C2,dC,xbs,xms,eX,cX,xw0,xw1]
 obtain ⟨d0,hd0,ed0⟩ : ∃ d ∈ X ++ [E9],atI (X ++ [E9]) (d22 : Int) = some d:=⟨(X ++ [E9])[d22],List.getElem_mem l22,O6 (List.getElem?_eq_getElem l22)⟩
 obtain ⟨z0,ez0⟩ : ∃ z,atI (X ++ [E9]) 0 = some z ∧ (Sk 9 z ∧ wt z ≤ 990):=⟨(X ++ [E9])[0],O6 (j:=0) (List.getElem?_eq_getElem pos),hX' _ (List.getElem_mem pos)⟩
 have s3 : aW2 [‹scr ns›,‹.list N›,‹K5 w h l›,‹.list (X ++ [E9])›,none,none,none,none,none,none] = some (.nx [‹scr ns›,‹.list N›,‹K5 w h l›,‹.list (X ++ [E9])›,‹d0›,none,none,none,none,none]):=by wp_walk using evD,aW2,e22,ed0
 have loop : ∃ (d : D) (a5 : Option B),aW1 [‹scr ns›,‹.list N›,‹K5 w h l›,‹.list (X ++ [E9])›,‹d0›,none,none,none,none,none] = some (.nx [‹scr ns›,‹.list N›,‹K5 w h l›,‹.list (X ++ [E9])›,some (.val d),a5,none,none,none,none]) ∧ Sk 15 d ∧ wt d ≤ 1030:=by
  obtain ⟨y5,n5,o5,ly5⟩:=nmv 5 (by decide)
  have N5 : atI N 5 = some (.str (nmS b 5 y5)):=O6 (j:=5) n5
  have nS : SOk (nmS b 5 y5):=bf4 b (by decide) o5
  have nL : (nmS b 5 y5).length ≤ 6:=by
   obtain ⟨s,e,_,_,q⟩:=nm6 5 (by decide)
   rw [List.getD_eq_getElem?_getD,n5] at e
   cases e
   exact q
  obtain ⟨ρ',e,d,a5,hρ,hs⟩:=Z0 (α:=Nat) (g:=C9 5) (f:=(D3 4 (C2 (A5 (dC (.str "group")) (A5 (B0 C5 (dIx (B1 1) (dC (.int 5))) (ac0 (dC (.str "abcd")) (A6 5))) (A5 (dC (.str "over")) (A5 (C2 (A5 (dC (.int 1)) (A5 (dC (.int 1)) A7))) (A5 (dC (.bool true)) (A5 (C2 (A5 (A6 4) A7)) A7))))))))) (h:=fun k : Nat=>PyData.int k)
   (I:=fun i ρ=>∃ d a5,ρ = [‹scr ns›,‹.list N›,‹K5 w h l›,‹.list (X ++ [E9])›,some (.val d),a5,none,none,none,none] ∧ (Sk (9 + 2 * i) d ∧ wt d ≤ 990 + 12 * i)) (List.range d23) 0 [‹scr ns›,‹.list N›,‹K5 w h l›,‹.list (X ++ [E9])›,‹d0›,none,none,none,none,none] ⟨d0,none,rfl,hX' _ hd0⟩ (fun j t hj ρ hρ=>by
   obtain ⟨d,a5,rfl,hs⟩:=hρ
   have ht : t < 4:=by
    have:=List.mem_range.mp (List.mem_of_getElem? hj); omega
   obtain ⟨c,c1,c2,ec⟩:=bQ8 t ht
   have cc : C5 (.str (nmS b 5 y5)) (.str ⟨#[c]⟩) = some (.str (nmS b 5 y5 ++ ⟨#[c]⟩)):=by
    show (if (nmS b 5 y5).length + 1 ≤ 16777216 then _ else none) = _
    rw [if_pos (by omega)]
   have sk : ∀ n,Sk n (.str (nmS b 5 y5 ++ ⟨#[c]⟩)):=fun n=>by
    have e0 : (nmS b 5 y5 ++ (⟨#[c]⟩ : Str)).cps = (nmS b 5 y5).cps ++ #[c]:=rfl
    refine W1 n _ ?_ ?_
    ·rw [e0,Array.all_append,Bool.and_eq_true]
     refine ⟨?_,by simp; omega⟩
     rw [← Array.all_toList,List.all_eq_true]
     intro x hx
     have:=nS x hx
     exact decide_eq_true (by omega)
    ·rw [e0,Array.size_append]
     have : (nmS b 5 y5).cps.size ≤ 6:=nL
     show _ + 1 ≤ 100
     omega
   have q:=cj9 sk rfl hs
   refine ⟨_,rfl,_,?_,ck0 (.str (nmS b 5 y5 ++ ⟨#[c]⟩)) d,‹.int t›,rfl,?_⟩
   ·wp_walk using evD,ac0,N5,ec,cc
   ·exact ⟨Sk.mono q.1 (by omega),by have:=q.2; omega⟩)
  subst hρ
  rw [Nat.zero_add,List.length_range] at hs
  refine ⟨d,a5,?_,Sk.mono hs.1 (by omega),by have:=hs.2; omega⟩
  unfold aW1 W3
  rw [y6 (n:=d23) (by simp only [A9,A5,A7,A6,dC,xg0,xbs,xms,e23]) (by omega),xbs]
  exact e
 obtain ⟨d,a5,s4,dS⟩:=loop
 have s5 : aW0 [‹scr ns›,‹.list N›,‹K5 w h l›,‹.list (X ++ [E9])›,some (.val d),a5,none,none,none,none] = some (.nx [‹scr ns›,‹.list N›,‹K5 w h l›,‹.list (X ++ [E9])›,some (.val d),a5,‹.tuple [.str "group", .str "abc", .str "plus", .tuple [.int 1,.int 2],.bool false,.tuple [d,d]]›,none,none,none]):=by wp_walk using evD,aW0
 obtain ⟨tw,htw⟩ : ∃ t : D,t = .tuple [.str "group", .str "abc", .str "plus", .tuple [.int 1,.int 2],.bool false,.tuple [d,d]]:=⟨_,rfl⟩
 rw [← htw] at s5
 have i30 : dIx (B1 3) (dC (.int 0)) [‹scr ns›,‹.list N›,‹K5 w h l›,‹.list (X ++ [E9])›,some (.val d),a5,some (.val tw),none,none,none] = some z0:=by simp only [dIx,B1,dC,Y6,xg0,xg1,xbs,ez0.1]
 have s6 : aV9 [‹scr ns›,‹.list N›,‹K5 w h l›,‹.list (X ++ [E9])›,some (.val d),a5,some (.val tw),none,none,none] = some (.nx [‹scr ns›,‹.list N›,‹K5 w h l›,‹.list (X ++ [E9])›,some (.val d),a5,some (.val tw),some (.own [K5 w h l,d,tw,.tuple [.int 2,.int 3,.tuple [d]],.tuple [.int 2,.int 3,.tuple [d,z0]]]),none,none]):=by simp only [aV9,U4,A5,A7,A6,C2,dC,i30,xg0,xg1,xbs,xms,xw0,xw1]
 have plus : ∀ n,Sk n (.str "plus"):=fun n=>W1 n _ (by decide +kernel) (by decide +kernel)
 have abc : ∀ n,Sk n (.str "abc"):=fun n=>W1 n _ (by decide +kernel) (by decide +kernel)
 have t6 : ∀ x ∈ ([K5 w h l,d,tw,.tuple [.int 2,.int 3,.tuple [d]],.tuple [.int 2,.int 3,.tuple [d,z0]]] : List D),Th x:=by
  have p1 : Th (K5 w h l):=aN7 picS (by decide) (by decide)
  have p2 : Th d:=aN7 dS (by decide) (by decide)
  have p3 : Th tw:=by
   subst htw
   refine aN7 (n:=17) (w:=2100) ⟨M5 (by show 6 ≤ 16; decide) (C0 (bz3 _) (C0 (abc _) (C0 (plus _) (C0 (aH4 15 1 2 (by decide) (by decide)) (C0 (ae9 _ _) (C0 (M5 (by show 2 ≤ 16; decide) (C0 dS.1 (C0 dS.1 P6))) P6)))))),?_⟩ (by decide) (by decide)
   have:=dS.2
   simp only [wt,wts]; omega
  have p4 : Th (.tuple [.int 2,.int 3,.tuple [d]]):=aN7 (n:=17) (w:=1100) ⟨M5 (by show 3 ≤ 16; decide) (C0 (T5 _ _ (by decide)) (C0 (T5 _ _ (by decide)) (C0 (M5 (by show 1 ≤ 16; decide) (C0 dS.1 P6)) P6))),by have:=dS.2; simp only [wt,wts]; omega⟩ (by decide) (by decide)
  have p5 : Th (.tuple [.int 2,.int 3,.tuple [d,z0]]):=aN7 (n:=17) (w:=2100) ⟨M5 (by show 3 ≤ 16; decide) (C0 (T5 _ _ (by decide)) (C0 (T5 _ _ (by decide)) (C0 (M5 (by show 2 ≤ 16; decide) (C0 dS.1 (C0 (Sk.mono ez0.2.1 (by decide)) P6))) P6))),by have:=dS.2; have:=ez0.2.2; simp only [wt,wts]; omega⟩ (by decide) (by decide)
  intro x hx
  simp only [List.mem_cons,List.not_mem_nil,or_false] at hx
  rcases hx with rfl | rfl | rfl | rfl | rfl <;> assumption
 obtain ⟨L6,hL6⟩ : ∃ L : List D,L = [K5 w h l,d,tw,.tuple [.int 2,.int 3,.tuple [d]],.tuple [.int 2,.int 3,.tuple [d,z0]]]:=⟨_,rfl⟩
 have l6 : L6.length = 5:=by rw [hL6]; rfl
 rw [← hL6] at s6 t6
 obtain ⟨u,eu,gu,wu⟩:=be1 11 11 (K5 w h l) d25 picS.1 (by omega) d24
 obtain ⟨v,ev,gv,wv⟩:=be1 11 15 d d27 dS.1 (by omega) d26
 have eu : F4 12 [K5 w h l,.int d24,.int d25] = some u:=eu
 have ev : F4 12 [d,.int d26,.int d27] = some v:=ev
 have tu : Th u:=⟨gu.mono (by decide),by have:=picS.2; omega⟩
 have tv : Th v:=⟨gv.mono (by decide),by have:=dS.2; omega⟩
 have tz : Th (.tuple [.int w,.int h,.tuple [v]]):=by
  have g : Gk 20 (.tuple [.int w,.int h,.tuple [v]]):=L3 (by simp) (B8 (P4 _ _ (by omega)) (B8 (P4 _ _ (by omega)) (B8 (L3 (by simp) (B8 gv M6)) M6)))
  refine ⟨g.mono (by decide),?_⟩
  have:=dS.2
  simp only [wt,wts]; omega
 have s7 : bu3 [‹scr ns›,‹.list N›,‹K5 w h l›,‹.list (X ++ [E9])›,some (.val d),a5,some (.val tw),some (.own L6),none,none] = some (.nx [‹scr ns›,‹.list N›,‹K5 w h l›,‹.list (X ++ [E9])›,some (.val d),a5,some (.val tw),some (.own (L6 ++ [u])),none,none]):=bQ4 (by omega) (by wp_walk using evD,pow8,e24,e25,eu)
 have s8 : bu2 [‹scr ns›,‹.list N›,‹K5 w h l›,‹.list (X ++ [E9])›,some (.val d),a5,some (.val tw),some (.own (L6 ++ [u])),none,none] = some (.nx [‹scr ns›,‹.list N›,‹K5 w h l›,‹.list (X ++ [E9])›,some (.val d),a5,some (.val tw),some (.own (L6 ++ [u] ++ [v])),none,none]):=bQ4 (by rw [List.length_append]; show _ + 1 ≤ _; omega) (by wp_walk using evD,pow8,e26,e27,ev)
 have ixl : atI (L6 ++ [u] ++ [v]) (-1) = some v:=by
  unfold atI
  have z : ixN (L6 ++ [u] ++ [v]).length (-1) = some 6:=by
   rw [List.length_append,List.length_append,l6]; rfl
  rw [z,xbs,List.getElem?_append_right (by rw [List.length_append,l6]; show 6 ≤ 6; decide),List.length_append,l6]
  rfl
 have ing : ∀ ρ,ab3 (dC (.int 1)) ρ = some (.int (-1)):=fun _=>rfl
 have p0 : ∀ xx : Option B,dIx (B1 2) (dC (.int 0)) [‹scr ns›,‹.list N›,‹K5 w h l›,‹.list (X ++ [E9])›,some (.val d),a5,some (.val tw),xx,none,none] = some (.int w):=fun _=>rfl
 have p1 : ∀ xx : Option B,dIx (B1 2) (dC (.int 1)) [‹scr ns›,‹.list N›,‹K5 w h l›,‹.list (X ++ [E9])›,some (.val d),a5,some (.val tw),xx,none,none] = some (.int h):=fun _=>rfl
 have p7 : dIx (B1 7) (ab3 (dC (.int 1))) [‹scr ns›,‹.list N›,‹K5 w h l›,‹.list (X ++ [E9])›,some (.val d),a5,some (.val tw),some (.own (L6 ++ [u] ++ [v])),none,none] = some v:=by simp only [dIx,B1,ing,xg0,xg1,xbs,ixl]
 have s9 : bu1 [‹scr ns›,‹.list N›,‹K5 w h l›,‹.list (X ++ [E9])›,some (.val d),a5,some (.val tw),some (.own (L6 ++ [u] ++ [v])),none,none] = some (.nx [‹scr ns›,‹.list N›,‹K5 w h l›,‹.list (X ++ [E9])›,some (.val d),a5,some (.val tw),some (.own (L6 ++ [u] ++ [v] ++ [.tuple [.int w,.int h,.tuple [v]]])),none,none]):=bQ4 (by rw [List.length_append,List.length_append]; show _ + 1 + 1 ≤ _; omega) (by simp only [C2,A5,A7,p0,p1,p7,xbs,xms])
 obtain ⟨L9,hL9⟩ : ∃ L : List D,L = L6 ++ [u] ++ [v] ++ [.tuple [.int w,.int h,.tuple [v]]]:=⟨_,rfl⟩
 have l9 : L9.length = 8:=by rw [hL9,List.length_append,List.length_append,List.length_append,l6]; rfl
 have t9 : ∀ x ∈ L9,Th x:=fun x hx=>by
  rw [hL9] at hx
  rcases List.mem_append.mp hx with hx | hx
  ·rcases List.mem_append.mp hx with hx | hx
   ·rcases List.mem_append.mp hx with hx | hx
    ·exact t6 x hx
    ·rw [List.mem_singleton.mp hx]; exact tu
   ·rw [List.mem_singleton.mp hx]; exact tv
  ·rw [List.mem_singleton.mp hx]; exact tz
 rw [← hL9] at s9
 have s10 : bd7 [‹scr ns›,‹.list N›,‹K5 w h l›,‹.list (X ++ [E9])›,some (.val d),a5,some (.val tw),some (.own L9),none,none] = some (.nx [‹scr ns›,‹.list N›,‹K5 w h l›,‹.list (X ++ [E9])›,some (.val d),a5,some (.val tw),some (.own L9),some (.val sp0),none]):=rfl
 have m2 : G3 (.tuple [hf]) (.int 2) = some (.tuple [hf,hf]):=rfl
 have m3 : G3 (.tuple [hf]) (.int 3) = some (.tuple [hf,hf,hf]):=rfl
 have m4 : G3 (.list [hf]) (.int 2) = some (.list [hf,hf]):=rfl
 obtain ⟨a9,e11⟩:=bh7 (e:=(C2 (A5 (dC (.str "layer")) (A5 (dC (.str "a")) (A5 (dC (.str "over")) (A5 (C2 (A5 (dC (.int 1)) (A5 (dC (.int 1)) A7))) (A5 (dC (.bool true)) (A5 (dC (.int 0)) (A5 (dC (.int 0)) (A5 (A6 9) (A5 (C2 (A5 (dC (.int 2)) (A5 (dC (.int 1)) (A5 (C2 (A5 (A6 8) (A5 (A6 8) A7))) A7)))) A7))))))))))) (f:=bz4) (s0:=‹scr ns›) (s1:=‹.list N›) (s2:=‹K5 w h l›) (s3:=‹.list (X ++ [E9])›) (s4:=some (.val d)) (s5:=a5) (s6:=some (.val tw)) (s8:=some (.val sp0)) (fun X m=>rfl) mks L9 none (by rw [l9]; decide)
 have s11 : aH2 [‹scr ns›,‹.list N›,‹K5 w h l›,‹.list (X ++ [E9])›,some (.val d),a5,some (.val tw),some (.own L9),some (.val sp0),none] = some (.nx [‹scr ns›,‹.list N›,‹K5 w h l›,‹.list (X ++ [E9])›,some (.val d),a5,some (.val tw),some (.own (L9 ++ mks.map bz4)),some (.val sp0),a9]):=by
  unfold aH2 W3
  have src : F0 (C2 (A5 (C2 (A5 (C2 (A5 (dC (.int 1)) (A5 (dC (.int 2)) A7))) A7)) (A5 (B0 G3 (C2 (A5 (C2 (A5 (dC (.int 1)) (A5 (dC (.int 2)) A7))) A7)) (dC (.int 2))) (A5 (B0 G3 (C2 (A5 (C2 (A5 (dC (.int 1)) (A5 (dC (.int 2)) A7))) A7)) (dC (.int 3))) (A5 (C2 A7) (A5 (dC .none) (A5 (B0 G3 (E4 (A5 (C2 (A5 (dC (.int 1)) (A5 (dC (.int 2)) A7))) A7)) (dC (.int 2))) (A5 (C2 (A5 (C2 (A5 (dC (.int 1)) (A5 (dC (.int 2)) A7))) (A5 (dC .none) A7))) (A5 (C2 (A5 (C2 (A5 (dC (.int 1)) (A5 (dC (.int 2)) A7))) (A5 (C2 (A5 (dC (.int 3)) (A5 (dC (.int 2)) A7))) A7))) A7))))))))) [‹scr ns›,‹.list N›,‹K5 w h l›,‹.list (X ++ [E9])›,some (.val d),a5,some (.val tw),some (.own L9),some (.val sp0),none] = some mks:=by
   simp only [F0,C2,E4,B0,A5,A7,dC,xbs,xms,m2,m3,m4]
  rw [src,xbs]
  exact e11
 obtain ⟨L11,hL11⟩ : ∃ L : List D,L = L9 ++ mks.map bz4:=⟨_,rfl⟩
 have l11 : L11.length = 16:=by rw [hL11,List.length_append,l9]; rfl
 have t11 : ∀ x ∈ L11,Th x:=fun x hx=>by
  rw [hL11] at hx
  rcases List.mem_append.mp hx with hx | hx
  ·exact t9 x hx
  ·obtain ⟨m,hm,rfl⟩:=List.mem_map.mp hx
   exact ce7 (ce3 m hm)
 rw [← hL11] at s11
 have c12 : aB7 (B1 7) (qN (A5 (C2 (A5 (dC (.str "tone")) (A5 (dC (.str "a")) (A5 (dC (.str "grey")) (A5 (C2 (A5 (dC (.int 1)) (A5 (dC (.int 1)) A7))) (A5 (dC (.bool true)) (A5 (dC (.int 0)) A7))))))) (A5 (C2 (A5 (dC (.str "tone")) (A5 (dC (.str "a")) (A5 (dC (.str "grey")) (A5 (C2 (A5 (dC (.int 1)) (A5 (dC (.int 1)) A7))) A7))))) A7))) [‹scr ns›,‹.list N›,‹K5 w h l›,‹.list (X ++ [E9])›,some (.val d),a5,some (.val tw),some (.own L11),some (.val sp0),a9] = some (L11 ++ [tn6,tn4]):=by
  show (if false = false ∧ false = false ∧ L11.length + 2 ≤ 16777216 then some (L11 ++ [tn6,tn4]) else none) = _
  rw [if_pos ⟨rfl,rfl,by omega⟩]
 have s12 : aH1 [‹scr ns›,‹.list N›,‹K5 w h l›,‹.list (X ++ [E9])›,some (.val d),a5,some (.val tw),some (.own L11),some (.val sp0),a9] = some (.nx [‹scr ns›,‹.list N›,‹K5 w h l›,‹.list (X ++ [E9])›,some (.val d),a5,some (.val tw),some (.own (L11 ++ [tn6,tn4])),some (.val sp0),a9]):=by simp only [aH1,U4,c12,xms,xw0,xw1]
 have s13 : bd6 [‹scr ns›,‹.list N›,‹K5 w h l›,‹.list (X ++ [E9])›,some (.val d),a5,some (.val tw),some (.own (L11 ++ [tn6,tn4])),some (.val sp0),a9] = some (.nx [‹scr ns›,‹.list N›,‹K5 w h l›,‹.list (X ++ [E9])›,some (.val d),a5,some (.val tw),some (.own (L11 ++ [tn6,tn4] ++ [tno])),some (.val sp0),a9]):=bQ4 (by rw [List.length_append]; show _ + 2 ≤ _; omega) (by rfl)
 have all : ∀ x ∈ L11 ++ [tn6,tn4] ++ [tno],Th x:=fun x hx=>by
  obtain ⟨a,b,c⟩:=cn5
  rcases List.mem_append.mp hx with hx | hx
  ·rcases List.mem_append.mp hx with hx | hx
   ·exact t11 x hx
   ·simp only [List.mem_cons,List.not_mem_nil,or_false] at hx
    rcases hx with rfl | rfl <;> assumption
  ·rw [List.mem_singleton.mp hx]; exact c
 generalize hL : L11 ++ [tn6,tn4] ++ [tno] = L at s13 all
 have lL : L.length ≤ 1000:=by rw [← hL,List.length_append,List.length_append,l11]; show 16 + 2 + 1 ≤ 1000; decide
 have s14 : bd5 [‹scr ns›,‹.list N›,‹K5 w h l›,‹.list (X ++ [E9])›,some (.val d),a5,some (.val tw),some (.own L),some (.val sp0),a9] = some (.rt (.bool true)):=by
  have c : D2 1 [] (F0 (A6 7)) (C9 0) (B6 (C3 (A9 Q5 (A5 (A6 0) A7)))) (A6 0) [‹scr ns›,‹.list N›,‹K5 w h l›,‹.list (X ++ [E9])›,some (.val d),a5,some (.val tw),‹.list L›,some (.val sp0),a9] = some ((L.filter fun _=>false).map id):=by
   refine W8 (l:=L) (h:=id) (f:=id) (p:=fun _=>false) (r:=[]) rfl (by rw [List.map_id]; rfl) lL (fun x hx=>?_) fun x _=>rfl
   obtain ⟨g,hw'⟩:=all x hx
   wp_walk using evD,id,aW9 (by decide) g hw'
  have ff : (L.filter fun _=>false) = []:=by simp
  rw [ff] at c
  have ee : eqD (.list []) (.list []) = some (.bool true):=rfl
  show (B5 _) [‹scr ns›,‹.list N›,‹K5 w h l›,‹.list (X ++ [E9])›,some (.val d),a5,some (.val tw),‹.list L›,some (.val sp0),a9] = _
  simp only [B5,B0,E4,c,A7,xmn,xbs,xms,ee]
 refine B2 (ρ:=[‹scr ns›,none,none,none,none,none,none,none,none,none]) rfl ?_
 unfold bT9
 rw [B7 s0,B7 s1,B7 s2,B7 s3,B7 s4,B7 s5,B7 s6,B7 s7,B7 s8,B7 s9,B7 s10,B7 s11,B7 s12,B7 s13]
 exact s14
end Lk20
namespace Lk20
open PySem PySem.Spec PyProof.Rows L2 G Sh
theorem R4 {K : PySem.W.Frag} (x : Str) (t : Tok) : aV1 K (.str x) (.str x t):=⟨.str x,⟨t,rfl⟩,fun _=>rfl⟩
def zcs : List (Str × D):=[("MANNERS", (.tuple [(.str "over"),(.str "multiply"),(.str "screen"),(.str "plus"),(.str "atop"),(.str "cut")])),("RULES", (.tuple [(.str "turn"),(.str "grey"),(.str "round")])),("GREATEST", (.int 8)),("LETTERS", (.str "abcdefghijklmnopqrstuvwxyz")),("DEEPEST", (.int 3)),("FARTHEST", (.int 9))]
def zbl : List Str:=["all", "bool", "int", "isinstance", "len", "list", "range", "set", "str", "tuple"]
def tb0 : Tab:=[]
def aa4 : Fd:={ x := "is_whole", st:=aj8,ps:=["thing"],N:=["thing"],old:=true }
theorem bb9 : Bd aa4:=fun _ _ _ _ _ _=>ua1 fun _=>rfl
theorem aX8 : aa4.okB = true:=by kernel_rfl
theorem aZ9 : rd tb0 zcs zbl aa4 = L7:=by kernel_rfl
def tb1 : Tab:=("is_whole", L7,1) :: tb0
def Q7 : Fd:={ x := "common_divisor", st:=U3,ps:=["one", "other"],N:=["one", "other", "left_over"],old:=true }
theorem at0 : Bd Q7:=fun _ _ _ _ _ _=>ua2 fun _ _=>rfl
theorem as1 : Q7.okB = true:=by kernel_rfl
theorem as7 : rd tb1 zcs zbl Q7 = L1:=by kernel_rfl
def tb2 : Tab:=("common_divisor", L1,2) :: tb1
def aa9 : Fd:={ x := "is_share", st:=ak3,ps:=["thing"],N:=["thing", "top", "under"],old:=true }
theorem bc4 : Bd aa9:=fun _ _ _ _ _ _=>ua1 fun _=>rfl
theorem aY3 : aa9.okB = true:=by kernel_rfl
theorem ba4 : rd tb2 zcs zbl aa9 = G1:=by kernel_rfl
def tb3 : Tab:=("is_share", G1,1) :: tb2
def X7 : Fd:={ x := "is_at_most", st:=w6,ps:=["one", "other"],N:=["one", "other"],old:=true }
theorem aM2 : Bd X7:=fun _ _ _ _ _ _=>ua2 fun _ _=>rfl
theorem aJ3 : X7.okB = true:=by kernel_rfl
theorem aL2 : rd tb3 zcs zbl X7 = Y0:=by kernel_rfl
def tb4 : Tab:=("is_at_most", Y0,2) :: tb3
def ag4 : Fd:={ x := "kind_of", st:=ar1,ps:=["node"],N:=["node"] }
theorem br6 : Bd ag4:=fun _ _ _ _ _ _=>ua1 fun _=>rfl
theorem bm1 : ag4.okB = true:=by kernel_rfl
theorem bo8 : rd tb4 zcs zbl ag4 = S9:=by kernel_rfl
def tb5 : Tab:=("kind_of", S9,1) :: tb4
def ab0 : Fd:={ x := "is_layer", st:=ak4,ps:=["node"],N:=["node"] }
theorem bc5 : Bd ab0:=fun _ _ _ _ _ _=>ua1 fun _=>rfl
theorem aY4 : ab0.okB = true:=by kernel_rfl
theorem ba5 : rd tb5 zcs zbl ab0 = ab8:=by kernel_rfl
def tb6 : Tab:=("is_layer", ab8,1) :: tb5
def ab1 : Fd:={ x := "is_group", st:=ak5,ps:=["node"],N:=["node"] }
theorem bc6 : Bd ab1:=fun _ _ _ _ _ _=>ua1 fun _=>rfl
theorem aY5 : ab1.okB = true:=by kernel_rfl
theorem ba6 : rd tb6 zcs zbl ab1 = M8:=by kernel_rfl
def tb7 : Tab:=("is_group", M8,1) :: tb6
def ag5 : Fd:={ x := "is_tone", st:=ar2,ps:=["node"],N:=["node"] }
theorem br7 : Bd ag5:=fun _ _ _ _ _ _=>ua1 fun _=>rfl
theorem bm2 : ag5.okB = true:=by kernel_rfl
theorem bo9 : rd tb7 zcs zbl ag5 = ai0:=by kernel_rfl
def tb8 : Tab:=("is_tone", ai0,1) :: tb7
def af5 : Fd:={ x := "name_of", st:=aq2,ps:=["node"],N:=["node"] }
theorem bq7 : Bd af5:=fun _ _ _ _ _ _=>ua1 fun _=>rfl
theorem bl2 : af5.okB = true:=by kernel_rfl
theorem bn9 : rd tb8 zcs zbl af5 = M0:=by kernel_rfl
def tb9 : Tab:=("name_of", M0,1) :: tb8
def j3 : Fd:={ x := "manner_of", st:=ad0,ps:=["node"],N:=["node"] }
theorem aU0 : Bd j3:=fun _ _ _ _ _ _=>ua1 fun _=>rfl
theorem aP2 : j3.okB = true:=by kernel_rfl
theorem aS6 : rd tb9 zcs zbl j3 = O0:=by kernel_rfl
def bZ3 : Tab:=("manner_of", O0,1) :: tb9
def af4 : Fd:={ x := "rule_of", st:=aq1,ps:=["tone"],N:=["tone"] }
theorem bq6 : Bd af4:=fun _ _ _ _ _ _=>ua1 fun _=>rfl
theorem bl1 : af4.okB = true:=by kernel_rfl
theorem bn8 : rd bZ3 zcs zbl af4 = ah5:=by kernel_rfl
def bZ2 : Tab:=("rule_of", ah5,1) :: bZ3
def U8 : Fd:={ x := "strength_of", st:=k8,ps:=["node"],N:=["node"] }
theorem aC8 : Bd U8:=fun _ _ _ _ _ _=>ua1 fun _=>rfl
theorem aB4 : U8.okB = true:=by kernel_rfl
theorem aC2 : rd bZ2 zcs zbl U8 = P0:=by kernel_rfl
def bZ1 : Tab:=("strength_of", P0,1) :: bZ2
def aa7 : Fd:={ x := "is_shown", st:=ak1,ps:=["node"],N:=["node"] }
theorem bc2 : Bd aa7:=fun _ _ _ _ _ _=>ua1 fun _=>rfl
theorem aY1 : aa7.okB = true:=by kernel_rfl
theorem ba2 : rd bZ1 zcs zbl aa7 = f8:=by kernel_rfl
def bZ0 : Tab:=("is_shown", f8,1) :: bZ1
def af7 : Fd:={ x := "left_of", st:=aq4,ps:=["layer"],N:=["layer"] }
theorem bq9 : Bd af7:=fun _ _ _ _ _ _=>ua1 fun _=>rfl
theorem bl4 : af7.okB = true:=by kernel_rfl
theorem bo1 : rd bZ0 zcs zbl af7 = ah7:=by kernel_rfl
def bY9 : Tab:=("left_of", ah7,1) :: bZ0
def ao4 : Fd:={ x := "top_of", st:=aw9,ps:=["layer"],N:=["layer"] }
theorem bF4 : Bd ao4:=fun _ _ _ _ _ _=>ua1 fun _=>rfl
theorem bx3 : ao4.okB = true:=by kernel_rfl
theorem bE0 : rd bY9 zcs zbl ao4 = ap4:=by kernel_rfl
def bY8 : Tab:=("top_of", ap4,1) :: bY9
def af6 : Fd:={ x := "mask_of", st:=aq3,ps:=["layer"],N:=["layer"] }
theorem bq8 : Bd af6:=fun _ _ _ _ _ _=>ua1 fun _=>rfl
theorem bl3 : af6.okB = true:=by kernel_rfl
theorem bo0 : rd bY8 zcs zbl af6 = ah6:=by kernel_rfl
def bY7 : Tab:=("mask_of", ah6,1) :: bY8
def aa2 : Fd:={ x := "sheet_of", st:=aj6,ps:=["layer"],N:=["layer"] }
theorem bb7 : Bd aa2:=fun _ _ _ _ _ _=>ua1 fun _=>rfl
theorem aX6 : aa2.okB = true:=by kernel_rfl
theorem aZ7 : rd bY7 zcs zbl aa2 = Z7:=by kernel_rfl
def bY6 : Tab:=("sheet_of", Z7,1) :: bY7
def V0 : Fd:={ x := "inner_nodes", st:=m8,ps:=["group"],N:=["group"] }
theorem aD0 : Bd V0:=fun _ _ _ _ _ _=>ua1 fun _=>rfl
theorem aB6 : V0.okB = true:=by kernel_rfl
theorem aC4 : rd bY6 zcs zbl V0 = J5:=by kernel_rfl
def bY5 : Tab:=("inner_nodes", J5,1) :: bY6
def ag6 : Fd:={ x := "is_spot", st:=ar3,ps:=["thing"],N:=["thing"],old:=true,hc:=[((57,15),[0])] }
theorem br8 : Bd ag6:=fun _ _ _ _ _ _=>ua1 fun _=>rfl
theorem bm3 : ag6.okB = true:=by kernel_rfl
theorem bp0 : rd bY5 zcs zbl ag6 = P1:=by kernel_rfl
def bY4 : Tab:=("is_spot", P1,1) :: bY5
def ag7 : Fd:={ x := "is_size", st:=ar4,ps:=["thing"],N:=["thing"] }
theorem br9 : Bd ag7:=fun _ _ _ _ _ _=>ua1 fun _=>rfl
theorem bm4 : ag7.okB = true:=by kernel_rfl
theorem bp1 : rd bY4 zcs zbl ag7 = Y3:=by kernel_rfl
def bY3 : Tab:=("is_size", Y3,1) :: bY4
def aa6 : Fd:={ x := "is_sized", st:=ak0,ps:=["thing"],N:=["thing"] }
theorem bc1 : Bd aa6:=fun _ _ _ _ _ _=>ua1 fun _=>rfl
theorem aY0 : aa6.okB = true:=by kernel_rfl
theorem ba1 : rd bY3 zcs zbl aa6 = K3:=by kernel_rfl
def bY2 : Tab:=("is_sized", K3,1) :: bY3
def aa8 : Fd:={ x := "is_sheet", st:=ak2,ps:=["thing"],N:=["thing", "spots"] }
theorem bc3 : Bd aa8:=fun _ _ _ _ _ _=>ua1 fun _=>rfl
theorem aY2 : aa8.okB = true:=by kernel_rfl
theorem ba3 : rd bY2 zcs zbl aa8 = K4:=by kernel_rfl
def bY1 : Tab:=("is_sheet", K4,1) :: bY2
def ag9 : Fd:={ x := "is_name", st:=ar6,ps:=["thing"],N:=["thing"],tx:=[0] }
theorem bs1 : Bd ag9:=fun _ _ _ _ _ _=>ua1 fun _=>rfl
theorem bm6 : ag9.okB = true:=by kernel_rfl
theorem bp3 : rd bY1 zcs zbl ag9 = U7:=by kernel_rfl
def bY0 : Tab:=("is_name", U7,1) :: bY1
def aa5 : Fd:={ x := "is_truth", st:=aj9,ps:=["thing"],N:=["thing"] }
theorem bc0 : Bd aa5:=fun _ _ _ _ _ _=>ua1 fun _=>rfl
theorem aX9 : aa5.okB = true:=by kernel_rfl
theorem ba0 : rd bY0 zcs zbl aa5 = f7:=by kernel_rfl
def bX9 : Tab:=("is_truth", f7,1) :: bY0
def j9 : Fd:={ x := "is_offset", st:=ad6,ps:=["thing"],N:=["thing"] }
theorem aU5 : Bd j9:=fun _ _ _ _ _ _=>ua1 fun _=>rfl
theorem aP7 : j9.okB = true:=by kernel_rfl
theorem aT1 : rd bX9 zcs zbl j9 = T0:=by kernel_rfl
def bX8 : Tab:=("is_offset", T0,1) :: bX9
def ah0 : Fd:={ x := "is_mask", st:=ar7,ps:=["thing", "sheet"],N:=["thing", "sheet"] }
theorem bs2 : Bd ah0:=fun _ _ _ _ _ _=>ua2 fun _ _=>rfl
theorem bm7 : ah0.okB = true:=by kernel_rfl
theorem bp4 : rd bX8 zcs zbl ah0 = u6:=by kernel_rfl
def bX7 : Tab:=("is_mask", u6,2) :: bX8
def N7 : Fd:={ x := "is_layer_of_parts", st:=Q9,ps:=["thing"],N:=["thing"] }
theorem ai8 : Bd N7:=fun _ _ _ _ _ _=>ua1 fun _=>rfl
theorem ai2 : N7.okB = true:=by kernel_rfl
theorem ai6 : rd bX7 zcs zbl N7 = K6:=by kernel_rfl
def bt6 : Tab:=("is_layer_of_parts", K6,1) :: bX7
def N8 : Fd:={ x := "is_group_of_nodes", st:=R0,ps:=["thing", "deepest"],N:=["thing", "deepest"] }
theorem ai9 : Bd N8:=fun _ _ _ _ _ _=>ua2 fun _ _=>rfl
theorem ai3 : N8.okB = true:=by kernel_rfl
def S0 : Fd:={ x := "has_node_form", st:=W2,ps:=["thing", "deepest"],N:=["thing", "deepest"] }
theorem au6 : Bd S0:=fun _ _ _ _ _ _=>ua2 fun _ _=>rfl
theorem au2 : S0.okB = true:=by kernel_rfl
def k5 : Fd:={ x := "are_nodes", st:=ad7,ps:=["thing", "deepest"],N:=["thing", "deepest"],hc:=[((106,44),[1])] }
theorem aU6 : Bd k5:=fun _ _ _ _ _ _=>ua2 fun _ _=>rfl
theorem aP8 : k5.okB = true:=by kernel_rfl
theorem ai7 (j : Nat) : rd (("is_group_of_nodes", C4 j,2) :: ("has_node_form", C1 j,2) :: ("are_nodes", M4 j,2) :: bt6) zcs zbl N8 = C4 (j + 1):=by kernel_rfl
theorem au5 (j : Nat) : rd (("is_group_of_nodes", C4 j,2) :: ("has_node_form", C1 j,2) :: ("are_nodes", M4 j,2) :: bt6) zcs zbl S0 = C1 (j + 1):=by kernel_rfl
theorem aT2 (j : Nat) : rd (("is_group_of_nodes", C4 j,2) :: ("has_node_form", C1 j,2) :: ("are_nodes", M4 j,2) :: bt6) zcs zbl k5 = M4 (j + 1):=by kernel_rfl
def bX6 : Tab:=("is_group_of_nodes", C4 12,2) :: ("has_node_form", C1 12,2) :: ("are_nodes", M4 12,2) :: bt6
def U9 : Fd:={ x := "names_among", st:=k9,ps:=["nodes"],N:=["nodes", "names", "node"],own:=[1],fz:=[(113,[1])] }
theorem aC9 : Bd U9:=fun _ _ _ _ _ _=>ua1 fun _=>rfl
theorem aB5 : U9.okB = true:=by kernel_rfl
theorem aC3 (j : Nat) : rd (("names_among", D1 j,1) :: bX6) zcs zbl U9 = D1 (j + 1):=by kernel_rfl
def bX5 : Tab:=("names_among", D1 12,1) :: bX6
def O5 : Fd:={ x := "are_names_unlike", st:=S1,ps:=["nodes"],N:=["nodes", "names"] }
theorem al8 : Bd O5:=fun _ _ _ _ _ _=>ua1 fun _=>rfl
theorem ak9 : O5.okB = true:=by kernel_rfl
theorem al5 : rd bX5 zcs zbl O5 = L8:=by kernel_rfl
def bX4 : Tab:=("are_names_unlike", L8,1) :: bX5
def ag8 : Fd:={ x := "is_node", st:=ar5,ps:=["thing"],N:=["thing"] }
theorem bs0 : Bd ag8:=fun _ _ _ _ _ _=>ua1 fun _=>rfl
theorem bm5 : ag8.okB = true:=by kernel_rfl
theorem bp2 : rd bX4 zcs zbl ag8 = ai1:=by kernel_rfl
def bX3 : Tab:=("is_node", ai1,1) :: bX4
def X6 : Fd:={ x := "is_picture", st:=v9,ps:=["thing"],N:=["thing"] }
theorem aM1 : Bd X6:=fun _ _ _ _ _ _=>ua1 fun _=>rfl
theorem aJ2 : X6.okB = true:=by kernel_rfl
theorem aL1 : rd bX3 zcs zbl X6 = Q8:=by kernel_rfl
def bX2 : Tab:=("is_picture", Q8,1) :: bX3
def ao8 : Fd:={ x := "_law_cell", st:=ax3,ps:=["_law_script", "_law_k"],N:=["_law_script", "_law_k"],old:=true }
theorem bF8 : Bd ao8:=fun _ _ _ _ _ _=>ua2 fun _ _=>rfl
theorem bx7 : ao8.okB = true:=by kernel_rfl
theorem bE4 : rd bX2 zcs zbl ao8 = ap6:=by kernel_rfl
def bX1 : Tab:=("_law_cell", ap6,2) :: bX2
def ag3 : Fd:={ x := "_law_drawn", st:=ar0,ps:=["_law_script", "_law_k", "_law_many"],N:=["_law_script", "_law_k", "_law_many", "_law_cell_here"],old:=true }
theorem br5 : Bd ag3:=fun _ _ _ _ _ _=>ua3 fun _ _ _=>rfl
theorem bm0 : ag3.okB = true:=by kernel_rfl
theorem bo7 : rd bX1 zcs zbl ag3 = B3:=by kernel_rfl
def bX0 : Tab:=("_law_drawn", B3,3) :: bX1
def ao6 : Fd:={ x := "_law_made", st:=ax1,ps:=["_law_top", "_law_under"],N:=["_law_top", "_law_under", "_law_one", "_law_by"],old:=true }
theorem bF6 : Bd ao6:=fun _ _ _ _ _ _=>ua2 fun _ _=>rfl
theorem bx5 : ao6.okB = true:=by kernel_rfl
theorem bE2 : rd bX0 zcs zbl ao6 = Z9:=by kernel_rfl
def bW9 : Tab:=("_law_made", Z9,2) :: bX0
def af8 : Fd:={ x := "_law_times", st:=aq5,ps:=["_law_one", "_law_other"],N:=["_law_one", "_law_other"],old:=true }
theorem br0 : Bd af8:=fun _ _ _ _ _ _=>ua2 fun _ _=>rfl
theorem bl5 : af8.okB = true:=by kernel_rfl
theorem bo2 : rd bW9 zcs zbl af8 = ah8:=by kernel_rfl
def bW8 : Tab:=("_law_times", ah8,2) :: bW9
def ag0 : Fd:={ x := "_law_share", st:=aq7,ps:=["_law_script", "_law_at"],N:=["_law_script", "_law_at", "_law_under", "_law_drawn_here"],old:=true }
theorem br2 : Bd ag0:=fun _ _ _ _ _ _=>ua2 fun _ _=>rfl
theorem bl7 : ag0.okB = true:=by kernel_rfl
theorem bo4 : rd bW8 zcs zbl ag0 = L0:=by kernel_rfl
def bW7 : Tab:=("_law_share", L0,2) :: bW8
def ao5 : Fd:={ x := "_law_spot", st:=ax0,ps:=["_law_script", "_law_at"],N:=["_law_script", "_law_at", "_law_cover"],old:=true,hc:=[((148,33),[2,0,1])] }
theorem bF5 : Bd ao5:=fun _ _ _ _ _ _=>ua2 fun _ _=>rfl
theorem bx4 : ao5.okB = true:=by kernel_rfl
theorem bE1 : rd bW7 zcs zbl ao5 = Z8:=by kernel_rfl
def bW6 : Tab:=("_law_spot", Z8,2) :: bW7
def af9 : Fd:={ x := "_law_sheet", st:=aq6,ps:=["_law_script", "_law_at", "_law_wide", "_law_high"],N:=["_law_script", "_law_at", "_law_wide", "_law_high", "_law_spots"],hc:=[((150,17),[0,1])] }
theorem br1 : Bd af9:=fun _ _ _ _ _ _=>ua4 fun _ _ _ _=>rfl
theorem bl6 : af9.okB = true:=by kernel_rfl
theorem bo3 : rd bW6 zcs zbl af9 = u4:=by kernel_rfl
def bW5 : Tab:=("_law_sheet", u4,4) :: bW6
def ag2 : Fd:={ x := "_law_names", st:=aq9,ps:=["_law_script", "_law_at", "_law_many"],N:=["_law_script", "_law_at", "_law_many", "_law_is_first", "_law_found", "_law_k", "_law_word"],own:=[4],tx:=[6],fz:=[(161,[4])],hc:=[((158,28),[0,1,5])] }
theorem br4 : Bd ag2:=fun _ _ _ _ _ _=>ua3 fun _ _ _=>rfl
theorem bl9 : ag2.okB = true:=by kernel_rfl
theorem bo6 : rd bW5 zcs zbl ag2 = u5:=by kernel_rfl
def bW4 : Tab:=("_law_names", u5,3) :: bW5
def ao7 : Fd:={ x := "_law_leaf", st:=ax2,ps:=["_law_script", "_law_at", "_law_name", "_law_main"],N:=["_law_script", "_law_at", "_law_name", "_law_main", "_law_strength", "_law_is_shown", "_law_manner", "_law_wide", "_law_high", "_law_mask", "_law_left", "_law_top", "_law_sheet_here"],hc:=[((174,26),[0,1])] }
theorem bF7 : Bd ao7:=fun _ _ _ _ _ _=>ua4 fun _ _ _ _=>rfl
theorem bx6 : ao7.okB = true:=by kernel_rfl
theorem bE3 : rd bW4 zcs zbl ao7 = c7:=by kernel_rfl
def bW3 : Tab:=("_law_leaf", c7,4) :: bW4
def ag1 : Fd:={ x := "_law_nodes", st:=aq8,ps:=["_law_script", "_law_at", "_law_most", "_law_names_here"],N:=["_law_script", "_law_at", "_law_most", "_law_names_here", "_law_main", "_law_many", "_law_found", "_law_k", "_law_first", "_law_last", "_law_strength", "_law_manner", "_law_group"],own:=[6],hc:=[((184,17),[0,4,3,1])] }
theorem br3 : Bd ag1:=fun _ _ _ _ _ _=>ua4 fun _ _ _ _=>rfl
theorem bl8 : ag1.okB = true:=by kernel_rfl
theorem bo5 : rd bW3 zcs zbl ag1 = ah9:=by kernel_rfl
def bW2 : Tab:=("_law_nodes", ah9,4) :: bW3
def j4 : Fd:={ x := "_law_picture", st:=ad2,ps:=["_law_script", "_law_at", "_law_most", "_law_names_here"],N:=["_law_script", "_law_at", "_law_most", "_law_names_here", "_law_wide", "_law_high"] }
theorem aU1 : Bd j4:=fun _ _ _ _ _ _=>ua4 fun _ _ _ _=>rfl
theorem aP3 : j4.okB = true:=by kernel_rfl
theorem aS7 : rd bW2 zcs zbl j4 = V9:=by kernel_rfl
def bW1 : Tab:=("_law_picture", V9,4) :: bW2
def X2 : Fd:={ x := "_law_is_whole", st:=v5,ps:=["_law_thing"],N:=["_law_thing"],old:=true }
theorem aL7 : Bd X2:=fun _ _ _ _ _ _=>ua1 fun _=>rfl
theorem aI8 : X2.okB = true:=by kernel_rfl
theorem aK7 : rd bW1 zcs zbl X2 = C8:=by kernel_rfl
def bW0 : Tab:=("_law_is_whole", C8,1) :: bW1
def X4 : Fd:={ x := "_law_is_share", st:=v7,ps:=["_law_thing"],N:=["_law_thing"],old:=true }
theorem aL9 : Bd X4:=fun _ _ _ _ _ _=>ua1 fun _=>rfl
theorem aJ0 : X4.okB = true:=by kernel_rfl
theorem aK9 : rd bW0 zcs zbl X4 = E7:=by kernel_rfl
def bV9 : Tab:=("_law_is_share", E7,1) :: bW0
def j5 : Fd:={ x := "_law_is_spot", st:=ad3,ps:=["_law_thing"],N:=["_law_thing"],old:=true,hc:=[((206,11),[0])] }
theorem aU2 : Bd j5:=fun _ _ _ _ _ _=>ua1 fun _=>rfl
theorem aP4 : j5.okB = true:=by kernel_rfl
theorem aS8 : rd bV9 zcs zbl j5 = M3:=by kernel_rfl
def bV8 : Tab:=("_law_is_spot", M3,1) :: bV9
def av4 : Fd:={ x := "_law_odd", st:=aH6,ps:=["_law_number"],N:=["_law_number", "_law_some"],old:=true }
theorem bQ2 : Bd av4:=fun _ _ _ _ _ _=>ua1 fun _=>rfl
theorem bK6 : av4.okB = true:=by kernel_rfl
theorem bP7 : rd bV8 zcs zbl av4 = aw1:=by kernel_rfl
def bV7 : Tab:=("_law_odd", aw1,1) :: bV8
def aa3 : Fd:={ x := "_law_spoilt", st:=aj7,ps:=["_law_thing", "_law_number", "_law_deep"],N:=["_law_thing", "_law_number", "_law_deep", "_law_at", "_law_part"],old:=true }
theorem bb8 : Bd aa3:=fun _ _ _ _ _ _=>ua3 fun _ _ _=>rfl
theorem aX7 : aa3.okB = true:=by kernel_rfl
theorem aZ8 (j : Nat) : rd (("_law_spoilt", F4 j,3) :: bV7) zcs zbl aa3 = F4 (j + 1):=by kernel_rfl
def bV6 : Tab:=("_law_spoilt", F4 12,3) :: bV7
def av5 : Fd:={ x := "_law_all", st:=aH7,ps:=["_law_nodes_here"],N:=["_law_nodes_here", "_law_found", "_law_node"],own:=[1],fz:=[(227,[1])] }
theorem bQ3 : Bd av5:=fun _ _ _ _ _ _=>ua1 fun _=>rfl
theorem bK7 : av5.okB = true:=by kernel_rfl
theorem bP8 (j : Nat) : rd (("_law_all", G7 j,1) :: bV6) zcs zbl av5 = G7 (j + 1):=by kernel_rfl
def bV5 : Tab:=("_law_all", G7 12,1) :: bV6
def j7 : Fd:={ x := "_law_is_name", st:=ad5,ps:=["_law_thing"],N:=["_law_thing"],tx:=[0] }
theorem aU4 : Bd j7:=fun _ _ _ _ _ _=>ua1 fun _=>rfl
theorem aP6 : j7.okB = true:=by kernel_rfl
theorem aT0 : rd bV5 zcs zbl j7 = S8:=by kernel_rfl
def bV4 : Tab:=("_law_is_name", S8,1) :: bV5
def X3 : Fd:={ x := "_law_is_sheet", st:=v6,ps:=["_law_thing"],N:=["_law_thing"] }
theorem aL8 : Bd X3:=fun _ _ _ _ _ _=>ua1 fun _=>rfl
theorem aI9 : X3.okB = true:=by kernel_rfl
theorem aK8 : rd bV4 zcs zbl X3 = J0:=by kernel_rfl
def bV3 : Tab:=("_law_is_sheet", J0,1) :: bV4
def X5 : Fd:={ x := "_law_has_head", st:=v8,ps:=["_law_thing"],N:=["_law_thing", "_law_words"] }
theorem aM0 : Bd X5:=fun _ _ _ _ _ _=>ua1 fun _=>rfl
theorem aJ1 : X5.okB = true:=by kernel_rfl
theorem aL0 : rd bV3 zcs zbl X5 = J1:=by kernel_rfl
def bV2 : Tab:=("_law_has_head", J1,1) :: bV3
def j6 : Fd:={ x := "_law_is_node", st:=ad4,ps:=["_law_thing", "_law_deep"],N:=["_law_thing", "_law_deep"],hc:=[((257,15),[1])] }
theorem aU3 : Bd j6:=fun _ _ _ _ _ _=>ua2 fun _ _=>rfl
theorem aP5 : j6.okB = true:=by kernel_rfl
theorem aS9 (j : Nat) : rd (("_law_is_node", B9 j,2) :: bV2) zcs zbl j6 = B9 (j + 1):=by kernel_rfl
def bV1 : Tab:=("_law_is_node", B9 12,2) :: bV2
def U1 : Fd:={ x := "_law_are_unlike", st:=Y9,ps:=["_law_nodes_here"],N:=["_law_nodes_here", "_law_names_here"] }
theorem aA2 : Bd U1:=fun _ _ _ _ _ _=>ua1 fun _=>rfl
theorem ay3 : U1.okB = true:=by kernel_rfl
theorem az5 : rd bV1 zcs zbl U1 = L5:=by kernel_rfl
def bV0 : Tab:=("_law_are_unlike", L5,1) :: bV1
def U0 : Fd:={ x := "_law_is_picture", st:=Y8,ps:=["_law_thing"],N:=["_law_thing"] }
theorem aA1 : Bd U0:=fun _ _ _ _ _ _=>ua1 fun _=>rfl
theorem ay2 : U0.okB = true:=by kernel_rfl
theorem az4 : rd bV0 zcs zbl U0 = N9:=by kernel_rfl
def bU9 : Tab:=("_law_is_picture", N9,1) :: bV0
def T9 : Fd:={ x := "_law_said_right", st:=Y7,ps:=["_law_thing"],N:=["_law_thing", "_law_due", "_law_said", "_law_right"] }
theorem aA0 : Bd T9:=fun _ _ _ _ _ _=>ua1 fun _=>rfl
theorem ay1 : T9.okB = true:=by kernel_rfl
theorem az3 : rd bU9 zcs zbl T9 = Q5:=by kernel_rfl
def bU8 : Tab:=("_law_said_right", Q5,1) :: bU9
def bg9 : Fd:={ x := "law", st:=bR5,ps:=["_law_script"],N:=["_law_script", "_law_names_here", "_law_picture_here", "_law_nodes_here", "_law_node", "_law_turn", "_law_twice", "_law_some", "_law_spot_here", "_law_mask"],own:=[7],fz:=[(299,[7])] }
theorem ct8 : Bd bg9:=fun _ _ _ _ _ _=>ua1 fun _=>rfl
theorem cr3 : bg9.okB = true:=by kernel_rfl
theorem ct4 : rd bU8 zcs zbl bg9 = bi0:=by kernel_rfl
theorem cu5 {P : Program} {w : World} {K : PySem.W.Frag} {mg : Str → Option Value} (M : Md K mg zcs zbl) (h_is_whole : KF K "is_whole" aj8) (h_common_divisor : KF K "common_divisor" U3) (h_is_share : KF K "is_share" ak3) (h_is_at_most : KF K "is_at_most" w6) (h_kind_of : KF K "kind_of" ar1) (h_is_layer : KF K "is_layer" ak4) (h_is_group : KF K "is_group" ak5) (h_is_tone : KF K "is_tone" ar2) (h_name_of : KF K "name_of" aq2) (h_manner_of : KF K "manner_of" ad0) (h_rule_of : KF K "rule_of" aq1) (h_strength_of : KF K "strength_of" k8) (h_is_shown : KF K "is_shown" ak1) (h_left_of : KF K "left_of" aq4) (h_top_of : KF K "top_of" aw9) (h_mask_of : KF K "mask_of" aq3) (h_sheet_of : KF K "sheet_of" aj6) (h_inner_nodes : KF K "inner_nodes" m8) (h_is_spot : KF K "is_spot" ar3) (h_is_size : KF K "is_size" ar4) (h_is_sized : KF K "is_sized" ak0) (h_is_sheet : KF K "is_sheet" ak2) (h_is_name : KF K "is_name" ar6) (h_is_truth : KF K "is_truth" aj9) (h_is_offset : KF K "is_offset" ad6) (h_is_mask : KF K "is_mask" ar7) (h_is_layer_of_parts : KF K "is_layer_of_parts" Q9) (h_is_group_of_nodes : KF K "is_group_of_nodes" R0) (h_has_node_form : KF K "has_node_form" W2) (h_are_nodes : KF K "are_nodes" ad7) (h_names_among : KF K "names_among" k9) (h_are_names_unlike : KF K "are_names_unlike" S1) (h_is_node : KF K "is_node" ar5) (h_is_picture : KF K "is_picture" v9) (h_l_cell : KF K "_law_cell" ax3) (h_l_drawn : KF K "_law_drawn" ar0) (h_l_made : KF K "_law_made" ax1) (h_l_times : KF K "_law_times" aq5) (h_l_share : KF K "_law_share" aq7) (h_l_spot : KF K "_law_spot" ax0) (h_l_sheet : KF K "_law_sheet" aq6) (h_l_names : KF K "_law_names" aq9) (h_l_leaf : KF K "_law_leaf" ax2) (h_l_nodes : KF K "_law_nodes" aq8) (h_l_picture : KF K "_law_picture" ad2) (h_l_is_whole : KF K "_law_is_whole" v5) (h_l_is_share : KF K "_law_is_share" v7) (h_l_is_spot : KF K "_law_is_spot" ad3) (h_l_odd : KF K "_law_odd" aH6) (h_l_spoilt : KF K "_law_spoilt" aj7) (h_l_all : KF K "_law_all" aH7) (h_l_is_name : KF K "_law_is_name" ad5) (h_l_is_sheet : KF K "_law_is_sheet" v6) (h_l_has_head : KF K "_law_has_head" v8) (h_l_is_node : KF K "_law_is_node" ad4) (h_l_are_unlike : KF K "_law_are_unlike" Y9) (h_l_is_picture : KF K "_law_is_picture" Y8) (h_l_said_right : KF K "_law_said_right" Y7) (base : Heap) : TOk P w K mg base 111 bU8:=by
 have t : TOk P w K mg base 0 tb0:=TOk.nil
 have t : TOk P w K mg base 1 tb1:=t.add M aa4 h_is_whole bb9 aX8 rfl aZ9
 have t : TOk P w K mg base 2 tb2:=t.add M Q7 h_common_divisor at0 as1 rfl as7
 have t : TOk P w K mg base 3 tb3:=t.add M aa9 h_is_share bc4 aY3 rfl ba4
 have t : TOk P w K mg base 4 tb4:=t.add M X7 h_is_at_most aM2 aJ3 rfl aL2
 have t : TOk P w K mg base 5 tb5:=t.add M ag4 h_kind_of br6 bm1 rfl bo8
 have t : TOk P w K mg base 6 tb6:=t.add M ab0 h_is_layer bc5 aY4 rfl ba5
 have t : TOk P w K mg base 7 tb7:=t.add M ab1 h_is_group bc6 aY5 rfl ba6
 have t : TOk P w K mg base 8 tb8:=t.add M ag5 h_is_tone br7 bm2 rfl bo9
 have t : TOk P w K mg base 9 tb9:=t.add M af5 h_name_of bq7 bl2 rfl bn9
 have t : TOk P w K mg base 10 bZ3:=t.add M j3 h_manner_of aU0 aP2 rfl aS6
 have t : TOk P w K mg base 11 bZ2:=t.add M af4 h_rule_of bq6 bl1 rfl bn8
 have t : TOk P w K mg base 12 bZ1:=t.add M U8 h_strength_of aC8 aB4 rfl aC2
 have t : TOk P w K mg base 13 bZ0:=t.add M aa7 h_is_shown bc2 aY1 rfl ba2
 have t : TOk P w K mg base 14 bY9:=t.add M af7 h_left_of bq9 bl4 rfl bo1
 have t : TOk P w K mg base 15 bY8:=t.add M ao4 h_top_of bF4 bx3 rfl bE0
 have t : TOk P w K mg base 16 bY7:=t.add M af6 h_mask_of bq8 bl3 rfl bo0
 have t : TOk P w K mg base 17 bY6:=t.add M aa2 h_sheet_of bb7 aX6 rfl aZ7
 have t : TOk P w K mg base 18 bY5:=t.add M V0 h_inner_nodes aD0 aB6 rfl aC4
 have t : TOk P w K mg base 19 bY4:=t.add M ag6 h_is_spot br8 bm3 rfl bp0
 have t : TOk P w K mg base 20 bY3:=t.add M ag7 h_is_size br9 bm4 rfl bp1
 have t : TOk P w K mg base 21 bY2:=t.add M aa6 h_is_sized bc1 aY0 rfl ba1
 have t : TOk P w K mg base 22 bY1:=t.add M aa8 h_is_sheet bc3 aY2 rfl ba3
 have t : TOk P w K mg base 23 bY0:=t.add M ag9 h_is_name bs1 bm6 rfl bp3
 have t : TOk P w K mg base 24 bX9:=t.add M aa5 h_is_truth bc0 aX9 rfl ba0
 have t : TOk P w K mg base 25 bX8:=t.add M j9 h_is_offset aU5 aP7 rfl aT1
 have t : TOk P w K mg base 26 bX7:=t.add M ah0 h_is_mask bs2 bm7 rfl bp4
 have t : TOk P w K mg base 27 bt6:=t.add M N7 h_is_layer_of_parts ai8 ai2 rfl ai6
 have t : TOk P w K mg base 39 bX6:=TOk.rec3 (F1:=C4) (F2:=C1) (F3:=M4) t M N8 S0 k5 h_is_group_of_nodes h_has_node_form h_are_nodes ai9 au6 aU6 ai3 au2 aP8 rfl rfl rfl rfl rfl rfl ai7 au5 aT2 12
 have t : TOk P w K mg base 51 bX5:=TOk.rec (F:=D1) t M U9 h_names_among aC9 aB5 rfl rfl aC3 12
 have t : TOk P w K mg base 52 bX4:=t.add M O5 h_are_names_unlike al8 ak9 rfl al5
 have t : TOk P w K mg base 53 bX3:=t.add M ag8 h_is_node bs0 bm5 rfl bp2
 have t : TOk P w K mg base 54 bX2:=t.add M X6 h_is_picture aM1 aJ2 rfl aL1
 have t : TOk P w K mg base 55 bX1:=t.add M ao8 h_l_cell bF8 bx7 rfl bE4
 have t : TOk P w K mg base 56 bX0:=t.add M ag3 h_l_drawn br5 bm0 rfl bo7
 have t : TOk P w K mg base 57 bW9:=t.add M ao6 h_l_made bF6 bx5 rfl bE2
 have t : TOk P w K mg base 58 bW8:=t.add M af8 h_l_times br0 bl5 rfl bo2
 have t : TOk P w K mg base 59 bW7:=t.add M ag0 h_l_share br2 bl7 rfl bo4
 have t : TOk P w K mg base 60 bW6:=t.add M ao5 h_l_spot bF5 bx4 rfl bE1
 have t : TOk P w K mg base 61 bW5:=t.add M af9 h_l_sheet br1 bl6 rfl bo3
 have t : TOk P w K mg base 62 bW4:=t.add M ag2 h_l_names br4 bl9 rfl bo6
 have t : TOk P w K mg base 63 bW3:=t.add M ao7 h_l_leaf bF7 bx6 rfl bE3
 have t : TOk P w K mg base 64 bW2:=t.add M ag1 h_l_nodes br3 bl8 rfl bo5
 have t : TOk P w K mg base 65 bW1:=t.add M j4 h_l_picture aU1 aP3 rfl aS7
 have t : TOk P w K mg base 66 bW0:=t.add M X2 h_l_is_whole aL7 aI8 rfl aK7
 have t : TOk P w K mg base 67 bV9:=t.add M X4 h_l_is_share aL9 aJ0 rfl aK9
 have t : TOk P w K mg base 68 bV8:=t.add M j5 h_l_is_spot aU2 aP4 rfl aS8
 have t : TOk P w K mg base 69 bV7:=t.add M av4 h_l_odd bQ2 bK6 rfl bP7
 have t : TOk P w K mg base 81 bV6:=TOk.rec (F:=F4) t M aa3 h_l_spoilt bb8 aX7 rfl rfl aZ8 12
 have t : TOk P w K mg base 93 bV5:=TOk.rec (F:=G7) t M av5 h_l_all bQ3 bK7 rfl rfl bP8 12
 have t : TOk P w K mg base 94 bV4:=t.add M j7 h_l_is_name aU4 aP6 rfl aT0
 have t : TOk P w K mg base 95 bV3:=t.add M X3 h_l_is_sheet aL8 aI9 rfl aK8
 have t : TOk P w K mg base 96 bV2:=t.add M X5 h_l_has_head aM0 aJ1 rfl aL0
 have t : TOk P w K mg base 108 bV1:=TOk.rec (F:=B9) t M j6 h_l_is_node aU3 aP5 rfl rfl aS9 12
 have t : TOk P w K mg base 109 bV0:=t.add M U1 h_l_are_unlike aA2 ay3 rfl az5
 have t : TOk P w K mg base 110 bU9:=t.add M U0 h_l_is_picture aA1 ay2 rfl az4
 have t : TOk P w K mg base 111 bU8:=t.add M T9 h_l_said_right aA0 ay1 rfl az3
 exact t
theorem zmd {K : PySem.W.Frag} {h : Heap} {mg : Str → Option Value} {q0 q1 : Addr} {e0 e1 : Option Addr} {y0 y1 : Array (Option Value)} {g0t0 g0t1 g0t2 g0t3 g0t4 g0t5 g1t0 g1t1 g1t2 g2 g3 g4 g5 : Tok} {n0 n1 : Nat} (X : K.In h) (G : h.Ns mainGlobals mg) (p0 : PySem.W.nsIn K mainGlobals "MANNERS" = some (some (.ref q0))) (r0 : K.lookup q0 = some ⟨.type "tuple", e0,.seq #[.str "over" g0t0,.str "multiply" g0t1,.str "screen" g0t2,.str "plus" g0t3,.str "atop" g0t4,.str "cut" g0t5] n0,y0⟩) (p1 : PySem.W.nsIn K mainGlobals "RULES" = some (some (.ref q1))) (r1 : K.lookup q1 = some ⟨.type "tuple", e1,.seq #[.str "turn" g1t0,.str "grey" g1t1,.str "round" g1t2] n1,y1⟩) (p2 : PySem.W.nsIn K mainGlobals "GREATEST" = some (some (.int 8 g2))) (p3 : PySem.W.nsIn K mainGlobals "LETTERS" = some (some (.str "abcdefghijklmnopqrstuvwxyz" g3))) (p4 : PySem.W.nsIn K mainGlobals "DEEPEST" = some (some (.int 3 g4))) (p5 : PySem.W.nsIn K mainGlobals "FARTHEST" = some (some (.int 9 g5))) (z0 : PySem.W.nsIn K mainGlobals "all" = some none) (z1 : PySem.W.nsIn K mainGlobals "bool" = some none) (z2 : PySem.W.nsIn K mainGlobals "int" = some none) (z3 : PySem.W.nsIn K mainGlobals "isinstance" = some none) (z4 : PySem.W.nsIn K mainGlobals "len" = some none) (z5 : PySem.W.nsIn K mainGlobals "list" = some none) (z6 : PySem.W.nsIn K mainGlobals "range" = some none) (z7 : PySem.W.nsIn K mainGlobals "set" = some none) (z8 : PySem.W.nsIn K mainGlobals "str" = some none) (z9 : PySem.W.nsIn K mainGlobals "tuple" = some none) : Md K mg zcs zbl:=by
 refine ⟨fun x v e=>PySem.W.mg_of X G e,fun x d e=>?_,fun x e=>?_⟩
 ·unfold zcs at e
  rw [List.lookup_cons] at e
  split at e
  ·rename_i q; cases e; simp only [beq_iff_eq] at q; subst q; exact ⟨_,(aQ9 r0 rfl rfl (by show 6 ≤ 1000; decide) (O2 (R4 "over" g0t0) (O2 (R4 "multiply" g0t1) (O2 (R4 "screen" g0t2) (O2 (R4 "plus" g0t3) (O2 (R4 "atop" g0t4) (O2 (R4 "cut" g0t5) aE3))))))),PySem.W.mg_of X G p0⟩
  rw [List.lookup_cons] at e
  split at e
  ·rename_i q; cases e; simp only [beq_iff_eq] at q; subst q; exact ⟨_,(aQ9 r1 rfl rfl (by show 3 ≤ 1000; decide) (O2 (R4 "turn" g1t0) (O2 (R4 "grey" g1t1) (O2 (R4 "round" g1t2) aE3)))),PySem.W.mg_of X G p1⟩
  rw [List.lookup_cons] at e
  split at e
  ·rename_i q; cases e; simp only [beq_iff_eq] at q; subst q; exact ⟨_,(ay6 8 g2),PySem.W.mg_of X G p2⟩
  rw [List.lookup_cons] at e
  split at e
  ·rename_i q; cases e; simp only [beq_iff_eq] at q; subst q; exact ⟨_,(R4 "abcdefghijklmnopqrstuvwxyz" g3),PySem.W.mg_of X G p3⟩
  rw [List.lookup_cons] at e
  split at e
  ·rename_i q; cases e; simp only [beq_iff_eq] at q; subst q; exact ⟨_,(ay6 3 g4),PySem.W.mg_of X G p4⟩
  rw [List.lookup_cons] at e
  split at e
  ·rename_i q; cases e; simp only [beq_iff_eq] at q; subst q; exact ⟨_,(ay6 9 g5),PySem.W.mg_of X G p5⟩
  cases e
 ·unfold zbl at e
  simp only [List.contains_cons,List.contains_nil,Bool.or_false,Bool.or_eq_true,beq_iff_eq] at e
  rcases e with e | e | e | e | e | e | e | e | e | e
  ·subst e; exact PySem.W.mg_none_of X G z0
  ·subst e; exact PySem.W.mg_none_of X G z1
  ·subst e; exact PySem.W.mg_none_of X G z2
  ·subst e; exact PySem.W.mg_none_of X G z3
  ·subst e; exact PySem.W.mg_none_of X G z4
  ·subst e; exact PySem.W.mg_none_of X G z5
  ·subst e; exact PySem.W.mg_none_of X G z6
  ·subst e; exact PySem.W.mg_none_of X G z7
  ·subst e; exact PySem.W.mg_none_of X G z8
  ·subst e; exact PySem.W.mg_none_of X G z9
structure Qs (K : PySem.W.Frag) : Prop where
 h_is_whole : KF K "is_whole" aj8
 h_common_divisor : KF K "common_divisor" U3
 h_is_share : KF K "is_share" ak3
 h_is_at_most : KF K "is_at_most" w6
 h_kind_of : KF K "kind_of" ar1
 h_is_layer : KF K "is_layer" ak4
 h_is_group : KF K "is_group" ak5
 h_is_tone : KF K "is_tone" ar2
 h_name_of : KF K "name_of" aq2
 h_manner_of : KF K "manner_of" ad0
 h_rule_of : KF K "rule_of" aq1
 h_strength_of : KF K "strength_of" k8
 h_is_shown : KF K "is_shown" ak1
 h_left_of : KF K "left_of" aq4
 h_top_of : KF K "top_of" aw9
 h_mask_of : KF K "mask_of" aq3
 h_sheet_of : KF K "sheet_of" aj6
 h_inner_nodes : KF K "inner_nodes" m8
 h_is_spot : KF K "is_spot" ar3
 h_is_size : KF K "is_size" ar4
 h_is_sized : KF K "is_sized" ak0
 h_is_sheet : KF K "is_sheet" ak2
 h_is_name : KF K "is_name" ar6
 h_is_truth : KF K "is_truth" aj9
 h_is_offset : KF K "is_offset" ad6
 h_is_mask : KF K "is_mask" ar7
 h_is_layer_of_parts : KF K "is_layer_of_parts" Q9
 h_is_group_of_nodes : KF K "is_group_of_nodes" R0
 h_has_node_form : KF K "has_node_form" W2
 h_are_nodes : KF K "are_nodes" ad7
 h_names_among : KF K "names_among" k9
 h_are_names_unlike : KF K "are_names_unlike" S1
 h_is_node : KF K "is_node" ar5
 h_is_picture : KF K "is_picture" v9
 h_l_cell : KF K "_law_cell" ax3
 h_l_drawn : KF K "_law_drawn" ar0
 h_l_made : KF K "_law_made" ax1
 h_l_times : KF K "_law_times" aq5
 h_l_share : KF K "_law_share" aq7
 h_l_spot : KF K "_law_spot" ax0
 h_l_sheet : KF K "_law_sheet" aq6
 h_l_names : KF K "_law_names" aq9
 h_l_leaf : KF K "_law_leaf" ax2
 h_l_nodes : KF K "_law_nodes" aq8
 h_l_picture : KF K "_law_picture" ad2
 h_l_is_whole : KF K "_law_is_whole" v5
 h_l_is_share : KF K "_law_is_share" v7
 h_l_is_spot : KF K "_law_is_spot" ad3
 h_l_odd : KF K "_law_odd" aH6
 h_l_spoilt : KF K "_law_spoilt" aj7
 h_l_all : KF K "_law_all" aH7
 h_l_is_name : KF K "_law_is_name" ad5
 h_l_is_sheet : KF K "_law_is_sheet" v6
 h_l_has_head : KF K "_law_has_head" v8
 h_l_is_node : KF K "_law_is_node" ad4
 h_l_are_unlike : KF K "_law_are_unlike" Y9
 h_l_is_picture : KF K "_law_is_picture" Y8
 h_l_said_right : KF K "_law_said_right" Y7
 h_law : KF K "law" bR5
theorem cm5 {l : PySem.W.OpenLaw} {q : Program} {loose : List Str} {XP : (Str → Option Value) → Heap → Prop} {YP : World → Heap → Prop} {d : DefRec} {K : Params → PySem.W.Frag} (hn : l.most = some 63) (hdf : d.params.defaults = [])
  (hY : ∀ (w : World) (h : Heap),YP w h → (K w.params).In h) (hd : d.name = "law")
  (F : ∀ (w : World) (mg : Str → Option Value) (h : Heap),(K w.params).In h → h.Ns mainGlobals mg → Md (K w.params) mg zcs zbl)
  (Q : ∀ w : World,Qs (K w.params))
  (M : ∀ ns : List Int,ns.length ≤ 63 → bi0 [.list (ns.map PyData.int)] = some (.bool true)) :
  PySem.W.WalkO q loose XP YP l.row.toRowW d [] (fun f vs=>PySem.call f vs) :=
 L2.bG5 (n:=63) (k:=112) (x := "_law_script") (CX:=fun _=>CX0) (sp:=fun w=>spF (K w.params) 1 bi0) hn (by decide) hdf ⟨rfl,by decide,by decide⟩ hY
  (fun w mg fa h hk hg hm=>by
   have N:=F w mg h hk hg
   have q:=Q w
   rw [hd] at hm
   obtain ⟨fd,b1,b2⟩:=bM0 N (fun base=>cu5 N q.h_is_whole q.h_common_divisor q.h_is_share q.h_is_at_most q.h_kind_of q.h_is_layer q.h_is_group q.h_is_tone q.h_name_of q.h_manner_of q.h_rule_of q.h_strength_of q.h_is_shown q.h_left_of q.h_top_of q.h_mask_of q.h_sheet_of q.h_inner_nodes q.h_is_spot q.h_is_size q.h_is_sized q.h_is_sheet q.h_is_name q.h_is_truth q.h_is_offset q.h_is_mask q.h_is_layer_of_parts q.h_is_group_of_nodes q.h_has_node_form q.h_are_nodes q.h_names_among q.h_are_names_unlike q.h_is_node q.h_is_picture q.h_l_cell q.h_l_drawn q.h_l_made q.h_l_times q.h_l_share q.h_l_spot q.h_l_sheet q.h_l_names q.h_l_leaf q.h_l_nodes q.h_l_picture q.h_l_is_whole q.h_l_is_share q.h_l_is_spot q.h_l_odd q.h_l_spoilt q.h_l_all q.h_l_is_name q.h_l_is_sheet q.h_l_has_head q.h_l_is_node q.h_l_are_unlike q.h_l_is_picture q.h_l_said_right base) bg9 q.h_law ct8 cr3 rfl ct4 hm
   exact ⟨fd,b1,fun base _ _=>b2 base⟩)
  (fun w H a ns hl _ hS=>⟨rfl,H,[.list (ns.map PyData.int)],.bool true,F9.refl _,⟨.ref a,[],rfl,⟨a,_,rfl,hS,Reps.ints ns⟩,rfl⟩,M ns hl,fun v H' Hf' g r=>r⟩) fun _ _ _ _ _ z=>z
end Lk20
def PySem.W.Fast.tw10336984398272893224 : Unit:=()
def PySem.W.Fast.tw18205732067331990020 : Unit:=()
def PySem.W.Fast.tw2249476441423868960 : Unit:=()
def PySem.W.Fast.tw6545495647665801621 : Unit:=()
def PySem.W.Fast.tw17139963773242212248 : Unit:=()
def PySem.W.Fast.tw7695372995150623817 : Unit:=()
def PySem.W.Fast.tw4450078157666766828 : Unit:=()
def PySem.W.Fast.tw12178514460197680068 : Unit:=()
def PySem.W.Fast.tw1719926629591911570 : Unit:=()
def PySem.W.Fast.tw9949969568959555420 : Unit:=()
def PySem.W.Fast.tw13083567764677233048 : Unit:=()
def PySem.W.Fast.tw12477930021774338046 : Unit:=()
def PySem.W.Fast.tw16190332755449465669 : Unit:=()
def PySem.W.Fast.tw4247317198583512758 : Unit:=()
def PySem.W.Fast.tw6985213654996053119 : Unit:=()
def PySem.W.Fast.tw7140584074249325755 : Unit:=()
def PySem.W.Fast.tw16205990903655617625 : Unit:=()
def PySem.W.Fast.tw14490692765159620740 : Unit:=()
def PySem.W.Fast.tw1715803061913179080 : Unit:=()
def PySem.W.Fast.tw6948273052659831818 : Unit:=()
def PySem.W.Fast.tw2582446433728741878 : Unit:=()
def PySem.W.Fast.tw16625335524878876576 : Unit:=()
def PySem.W.Fast.tw3610262021981017376 : Unit:=()
def PySem.W.Fast.tw14831607642612662440 : Unit:=()
def PySem.W.Fast.tw7835497051694993074 : Unit:=()
def PySem.W.Fast.tw3417262624934440886 : Unit:=()
def PySem.W.Fast.tw9437367036223392659 : Unit:=()
def PySem.W.Fast.tw14345427909595438747 : Unit:=()
def PySem.W.Fast.tw14471339096527149953 : Unit:=()
def PySem.W.Fast.tw13126475102893081555 : Unit:=()
def PySem.W.Fast.tw1271664011448839401 : Unit:=()
def PySem.W.Fast.tw1764921224013544347 : Unit:=()
def PySem.W.Fast.tw10950535969249739737 : Unit:=()
def PySem.W.Fast.tw10562258244302996453 : Unit:=()
def PySem.W.Fast.tw11216515648776036158 : Unit:=()
def PySem.W.Fast.tw14924629552760530560 : Unit:=()
def PySem.W.Fast.tw12320170778534600947 : Unit:=()
def PySem.W.Fast.tw14298898751044548160 : Unit:=()
def PySem.W.Fast.tw7949534354704405169 : Unit:=()
def PySem.W.Fast.tw6422687980670740856 : Unit:=()
def PySem.W.Fast.tw10631505105587460119 : Unit:=()
def PySem.W.Fast.tw4191142469210871876 : Unit:=()
def PySem.W.Fast.tw18148409889727745929 : Unit:=()
def PySem.W.Fast.tw16437942374647317433 : Unit:=()
def PySem.W.Fast.tw12016169676310602642 : Unit:=()
def PySem.W.Fast.tw17413736743499592519 : Unit:=()
def PySem.W.Fast.tw248077676567713003 : Unit:=()
def PySem.W.Fast.tw2208789099175982133 : Unit:=()
def PySem.W.Fast.tw9891361478665292736 : Unit:=()
def PySem.W.Fast.tw12685951723246798999 : Unit:=()
def PySem.W.Fast.tw4788798464582116641 : Unit:=()
def PySem.W.Fast.tw1641086851560842116 : Unit:=()
def PySem.W.Fast.tw6392556194915562629 : Unit:=()
namespace Lk20
open PySem PySem.W PyProof.Rows
set_option maxHeartbeats 0 in
open_top head for PySem.Challenge.rw_glazework_k20_pictures_known
end Lk20
open PySem PySem.W PyProof.Rows
set_option maxRecDepth 100000 in
set_option maxHeartbeats 0 in
theorem PySem.Challenge.cw_glazework_k20_pictures_known_holds : PySem.Challenge.rw_glazework_k20_pictures_known.Holds := by
 refine Lk20.head ?_
 k_fill
 refine Lk20.cm5 (l:=PySem.Challenge.rw_glazework_k20_pictures_known) rfl rfl (fun w h Y=>PySem.W.kIn_of Y) rfl ?F ?Q Lk20.main
 case F =>
  intro w mg h KX G
  refine' Lk20.zmd KX G ?p0 ?r0 ?p1 ?r1 ?p2 ?p3 ?p4 ?p5 ?z0 ?z1 ?z2 ?z3 ?z4 ?z5 ?z6 ?z7 ?z8 ?z9
  (case p0=>k_is); (case r0=>k_is); (case p1=>k_is); (case r1=>k_is); (case p2=>k_is); (case p3=>k_is); (case p4=>k_is); (case p5=>k_is); (case z0=>k_is); (case z1=>k_is); (case z2=>k_is); (case z3=>k_is); (case z4=>k_is); (case z5=>k_is); (case z6=>k_is); (case z7=>k_is); (case z8=>k_is); (case z9=>k_is)
 case Q =>
  intro w
  refine ⟨?_,?_,?_,?_,?_,?_,?_,?_,?_,?_,?_,?_,?_,?_,?_,?_,?_,?_,?_,?_,?_,?_,?_,?_,?_,?_,?_,?_,?_,?_,?_,?_,?_,?_,?_,?_,?_,?_,?_,?_,?_,?_,?_,?_,?_,?_,?_,?_,?_,?_,?_,?_,?_,?_,?_,?_,?_,?_,?_⟩
  all_goals (refine' G.cr6 ?a ?l ?c ?k; (case a=>k_is); (case l=>k_is); (case c=>k_is); (case k=>k_is))
